import PyProof.Rows.All
import Wide.All
import OpenK.AllK
import Wide.FinOn
import HandS.Base
import HandS.Call
import HandS.List
import HandS.Comp
import HandS.Ends
import HandS.Dict
import HandS.Iter
import HandS.Text
import HandS.Words
import HandS.WordsList
import HandS.Codes
import HandS.Style
import HandS.Wide
import HandS.StrMore
import HandS.WideBits
import HandS.WordsExc
import HandS.WordsDict
import HandS.Walk
import HandS.ExcInit
import HandS.ExcField
import HandS.TupAny
import KE.KExcIs
import HandS.ExcOwn
import HandS.ExcIs
import KE.KEqSeq
import PySem.Challenge.RW_wordquarry_k02_rows_of_bytes
set_option Elab.async false
set_option linter.all false
set_option maxRecDepth 100000
set_option maxHeartbeats 2000000
namespace Wq
open PySem PySem.Spec PyProof.Rows L2
def top (i : Nat) : Stmt := PySem.Challenge.pw_wordquarry_k02_rows_of_bytes.main.body.getD i (.Pass ⟨0, 0, 0, 0⟩)
/-! callables by name -/
structure Cl (P : Program) (w : World) (K : PySem.W.Frag) (mg : Str → Option Value) (base : Heap) (k : Nat) (x : Str) (sp : Sp) : Prop where
  ex : ∃ (f : Addr) (fd : FuncData) (ps : List Str), FnOk P w K mg base CX0 k f fd ps sp ∧ mg x = some (.ref f) ∧ PySem.W.keepIn K (.ref f) = true ∧ Binds K fd ps []
structure DefAt (K : PySem.W.Frag) (mg : Str → Option Value) (x : Str) (st : Stmt) : Prop where
  ex : ∃ (f : Addr) (fd : FuncData), Fun K x x st f fd ∧ mg x = some (.ref f)
theorem def_mk {h : Heap} {mg : Str → Option Value} {K : PySem.W.Frag} {x : Str} {st : Stmt} {f : Addr} {oc : Value} {od an : Option Addr} {osl : Array (Option Value)} {kV doc pm cdv ct : Value} (X : K.In h) (G : h.Ns mainGlobals mg)
    (a : PySem.W.nsIn K mainGlobals x = some (some (.ref f))) (l : K.lookup f = some ⟨oc, od, .func (PySem.W.fnOf x x (defArgs st) (defBody st) (defScope st) .none kV doc pm an cdv ct), osl⟩)
    (c : PySem.W.codeIn K cdv x = true) (k : PySem.W.keepIn K (.ref f) = true) : DefAt K mg x st := ⟨f, _, fun_mk l c k, PySem.W.mg_of X G a⟩
section
variable {X : Cx} {k j : Nat} {x : Str} {sp : Sp} {p pos : Pos} {e : Expr} {es : List Expr} {t : TA}
theorem pe_cl (c : Cl X.prog X.w X.K X.mg X.base k x sp) (hr : Room j X.A) (hk : k ≤ j) (hg : Gl X x) (ha : PA X (e :: es) t)
    (hdb : (x == ("__debug__" : Str)) = false := by decide) (he : starEach (e :: es) X.env = (false, eval e X.env) :: starEach es X.env := by rfl) (hpl : (backTo pos (starEach es X.env)).any (·.1) = false := by rfl) :
    PE X (.Call (.Name x p) (e :: es) [] pos) (tCall sp [] E0 t) := by
  obtain ⟨f, fd, ps, F, hm, kp, b⟩ := c.ex
  exact pe_call F (hr.mono hk) hg hm kp b .nil pass0 ha hdb he hpl
end
section
variable {P : Program} {w : World} {K : PySem.W.Frag} {mg : Str → Option Value} {base : Heap}
theorem cl_of {x : Str} {st : Stmt} {N ps : List Str} {k : Nat} {sp : Sp} (D : DefAt K mg x st) (S : FnScope N ps (defScope st)) (len : ∀ vs H Q E, sp vs H Q E → vs.length = ps.length)
    (hb : ∀ (kV doc pm : Value) (an : Option Addr) (cdv ct : Value) (us : List Value), us.length = ps.length → bindArgs (PySem.W.fnOf x x (defArgs st) (defBody st) (defScope st) .none kV doc pm an cdv ct) ⟨us, []⟩ = pure (ps.zip us))
    (hbody : ∀ (f : Addr) (cdv : Value) (A : Around) (outer : List Env) (s : Shared) (H : Hp) (vs : List V) (Q : VK) (E : XK), Room k (A.deeper (envOfC x (defScope st) s.heap.objs.size f cdv)) → sp vs H Q E →
      ∃ t, PSs (cxOf CX0 P w K mg base N x (defScope st) f cdv A outer s H E).nox (defBody st) t ∧ t { nx := fun _ H' => Q .non H', rt := Q } (start N vs) H) : Cl P w K mg base (k + 1) x sp := by
  obtain ⟨f, fd, F, hm⟩ := D.ex
  exact ⟨f, fd, ps, F.ok S len (hbody f), hm, F.kp, F.binds hb⟩
/-! what the law's own words want of the top -/
structure Txt (K : PySem.W.Frag) (mg : Str → Option Value) : Prop where
  len : mg "len" = none
  int : mg "int" = none
  list : mg "list" = none
  range : mg "range" = none
  tuple : mg "tuple" = none
  min : mg "min" = none
/-! the pen -/
abbrev kv (s : Str) (v : V) : Key × V := (Sum.inr s, v)
def penD (c : Addr) (i d n f : Int) : List (Key × V) := [kv "cells" (.ref c), kv "at" (.int i), kv "digits" (.int d), kv "count" (.int n), kv "fold" (.int f)]
structure PenAt (H : Hp) (p c : Addr) (m : Nat) : Prop where
  ex : ∃ (ns : List Int) (i d f : Int) (n : Nat), H p = some (.dK (penD c i d n f)) ∧ H c = some (.lst (ns.map V.int)) ∧ 0 ≤ i ∧ 0 ≤ d ∧ n ≤ m ∧ 0 ≤ f ∧ f < 2147483587
theorem SqL_upd {H : Hp} {p c : Addr} {xs : List V} {kvs : List (Key × V)} {o : HO} (h : SqL K H c xs) (hp : H p = some (.dK kvs)) : SqL K (upd H p o) c xs := by
  rcases h with (h | ⟨u, h⟩) | h
  · refine .inl (.inl ?_)
    rw [upd_ne (ne_of h hp (by intro z; cases z))]
    exact h
  · refine .inl (.inr ⟨u, ?_⟩)
    rw [upd_ne (ne_of h hp (by intro z; cases z))]
    exact h
  · exact .inr h
section
variable {H : Hp} {p c : Addr} {i d n f x : Int}
theorem g_cells (h : H p = some (.dK (penD c i d n f))) : DGet H p (.str "cells") (some (.ref c)) := DGet.k (k := Sum.inr "cells") h
theorem g_at (h : H p = some (.dK (penD c i d n f))) : DGet H p (.str "at") (some (.int i)) := DGet.k (k := Sum.inr "at") h
theorem g_digits (h : H p = some (.dK (penD c i d n f))) : DGet H p (.str "digits") (some (.int d)) := DGet.k (k := Sum.inr "digits") h
theorem g_count (h : H p = some (.dK (penD c i d n f))) : DGet H p (.str "count") (some (.int n)) := DGet.k (k := Sum.inr "count") h
theorem g_fold (h : H p = some (.dK (penD c i d n f))) : DGet H p (.str "fold") (some (.int f)) := DGet.k (k := Sum.inr "fold") h
theorem p_count (h : H p = some (.dK (penD c i d n f))) : DPut H p (.str "count") (.int x) (upd H p (.dK (penD c i d x f))) := DPut.k (k := Sum.inr "count") h (by show 5 < sizeLine; decide)
theorem p_at : DPut (upd H p (.dK (penD c i d n f))) p (.str "at") (.int x) (upd H p (.dK (penD c x d n f))) := by
  have e := DPut.k (k := Sum.inr "at") (v := .int x) (upd_same (H := H) (a := p) (o := .dK (penD c i d n f))) (by show 5 < sizeLine; decide)
  rw [upd_upd] at e
  exact e
theorem p_digits : DPut (upd H p (.dK (penD c i d n f))) p (.str "digits") (.int x) (upd H p (.dK (penD c i x n f))) := by
  have e := DPut.k (k := Sum.inr "digits") (v := .int x) (upd_same (H := H) (a := p) (o := .dK (penD c i d n f))) (by show 5 < sizeLine; decide)
  rw [upd_upd] at e
  exact e
theorem p_fold : DPut (upd H p (.dK (penD c i d n f))) p (.str "fold") (.int x) (upd H p (.dK (penD c i d n x))) := by
  have e := DPut.k (k := Sum.inr "fold") (v := .int x) (upd_same (H := H) (a := p) (o := .dK (penD c i d n f))) (by show 5 < sizeLine; decide)
  rw [upd_upd] at e
  exact e
end
theorem PenAt.mono {H : Hp} {p c : Addr} {m m' : Nat} (h : PenAt H p c m) (hm : m ≤ m') : PenAt H p c m' := by
  obtain ⟨ns, i, d, f, n, h1, h2, h3, h4, h5, h6, h7⟩ := h.ex
  exact ⟨ns, i, d, f, n, h1, h2, h3, h4, by omega, h6, h7⟩
theorem PenAt.same {H H' : Hp} {p c : Addr} {m : Nat} (h : PenAt H p c m) (s : Same H H') : PenAt H' p c m := by
  obtain ⟨ns, i, d, f, n, h1, h2, h3⟩ := h.ex
  exact ⟨ns, i, d, f, n, s _ _ h1, s _ _ h2, h3⟩
theorem PenAt.dict {H : Hp} {p c : Addr} {m : Nat} (h : PenAt H p c m) : ∃ kvs, H p = some (.dK kvs) := by
  obtain ⟨ns, i, d, f, n, h1, _⟩ := h.ex
  exact ⟨_, h1⟩
theorem PenAt.cells {H : Hp} {p c : Addr} {m : Nat} (h : PenAt H p c m) : ∃ xs, H c = some (.lst xs) := by
  obtain ⟨ns, i, d, f, n, h1, h2, _⟩ := h.ex
  exact ⟨_, h2⟩
theorem PenAt.put {H : Hp} {p c l : Addr} {m : Nat} {o : HO} (h : PenAt H p c m) (hp : p ≠ l) (hc : c ≠ l) : PenAt (upd H l o) p c m := by
  obtain ⟨ns, i, d, f, n, h1, h2, h3⟩ := h.ex
  exact ⟨ns, i, d, f, n, by rw [upd_ne hp]; exact h1, by rw [upd_ne hc]; exact h2, h3⟩
theorem PenAt.ne {H : Hp} {p c l : Addr} {m : Nat} {o : HO} (h : PenAt H p c m) (hl : H l = some o) (ho : ∀ kvs, o ≠ .dK kvs) : l ≠ p := by
  obtain ⟨kvs, hk⟩ := h.dict
  exact ne_of hl hk (ho kvs)
/-- the pen moved on: lists stay -/
theorem PenAt.lst {H : Hp} {p c l : Addr} {m : Nat} {xs : List V} {o : HO} (h : PenAt H p c m) (hl : H l = some (.lst xs)) : upd H p o l = some (.lst xs) := by
  rw [upd_ne (h.ne hl (by intro kvs z; cases z))]
  exact hl
abbrev sPen : Stmt := top 10
abbrev sDraw : Stmt := top 11
abbrev sPick : Stmt := top 12
def spPen (K : PySem.W.Frag) : Sp := fun vs H Q _ => ∃ (a : Addr) (ns : List Int), vs = [.ref a] ∧ SqL K H a (ns.map V.int) ∧ ∀ p c H', H p = none → Same H H' → PenAt H' p c 0 → Q (.ref p) H'
def spDraw (K : PySem.W.Frag) : Sp := fun vs H Q _ => ∃ (p c : Addr) (m : Nat) (many : Int), vs = [.ref p, .int many] ∧ PenAt H p c m ∧ m < 1099511627776 ∧ 0 < many ∧ many.natAbs.log2 < 9000 ∧
  ∀ (v : Int) (o : HO), 0 ≤ v → v < many → PenAt (upd H p o) p c (m + 1) → Q (.int v) (upd H p o)
/-- what may be picked from: a list, a tuple, a text -/
inductive Some (K : PySem.W.Frag) (H : Hp) : V → List V → Prop
  | lst {l xs} : SqL K H l xs → Some K H (.ref l) xs
  | tup {l xs} : SqT K H l xs → Some K H (.ref l) xs
  | str {z} : z.length ≤ sizeLine → Some K H (.str z) (z.cps.toList.map fun c => V.str ⟨#[c]⟩)
def spPick (K : PySem.W.Frag) : Sp := fun vs H Q _ => ∃ (p c : Addr) (m : Nat) (u : V) (xs : List V), vs = [.ref p, u] ∧ PenAt H p c m ∧ Some K H u xs ∧ m < 1099511627776 ∧ 0 < xs.length ∧ xs.length < 1073741824 ∧
  ∀ (i : Nat) (v : V) (o : HO), xs[i]? = some v → PenAt (upd H p o) p c (m + 1) → Q v (upd H p o)
theorem scPen : FnScope ["_law_script", "_law_fold", "_law_cell"] ["_law_script"] (defScope sPen) := ⟨rfl, rfl, rfl, by decide +kernel, rfl, by decide +kernel, by decide +kernel⟩
theorem scDraw : FnScope ["_law_pen_here", "_law_many", "_law_cell", "_law_digit", "_law_mixed"] ["_law_pen_here", "_law_many"] (defScope sDraw) := ⟨rfl, rfl, rfl, by decide +kernel, rfl, by decide +kernel, by decide +kernel⟩
theorem scPick : FnScope ["_law_pen_here", "_law_some"] ["_law_pen_here", "_law_some"] (defScope sPick) := ⟨rfl, rfl, rfl, by decide +kernel, rfl, by decide +kernel, by decide +kernel⟩
theorem ints_at {ns : List Int} {i : Nat} {y : V} (hi : (ns.map V.int)[i]? = some y) : ∃ z, y = V.int z := by
  rw [List.getElem?_map] at hi
  cases e : ns[i]? with
  | none =>
    rw [e] at hi
    cases hi
  | some z =>
    rw [e] at hi
    exact ⟨z, (Option.some.inj hi).symm⟩
theorem ok_pen (D : DefAt K mg "_law_pen" sPen) (T : Txt K mg) : Cl P w K mg base 1 "_law_pen" (spPen K) := by
  refine cl_of D scPen (fun vs H Q E h => ?_) (fun _ _ _ _ _ _ us hl => match us, hl with | [_], _ => rfl) (fun f cdv A outer s H vs Q E hr h => ?_)
  · obtain ⟨a, ns, rfl, _⟩ := h
    rfl
  · obtain ⟨a, ns, rfl, hS, k⟩ := h
    refine ⟨_, pss_cons (ps_set (i := 1) scPen.nd rfl (Or.inl rfl) pe_int)
      (pss_cons (ps_for PassesOwn.never rfl (pi_list (pv 0)) (pg_name (i := 2) scPen.nd rfl (Or.inl rfl))
        (pss_one (ps_set (i := 1) scPen.nd rfl (Or.inl rfl) (pe_op op_mod (pe_callTy call_int1 (by rfl) (by exact T.int) PyProof.Rows.boot_int (pa_cons (pe_op op_add (pe_op op_mul (pv 1) pe_int) (pv 2)) pa_nil)) pe_int))))
      (pss_one (ps_ret (pe_disp (pps_cons pe_str (pe_callTy call_list_of (by rfl) (by exact T.list) (by decide +kernel) (pa_cons (pv 0) pa_nil)) (pps_cons pe_str pe_int (pps_cons pe_str pe_int (pps_cons pe_str pe_int (pps_cons pe_str (pv 1) pps_nil))))) (by rfl) (by rfl) (fun z => by cases z) (by decide))))), ?_⟩
    refine ⟨_, rfl, a, rfl, ⟨_, hS⟩, for_list (K := K) (a := a) (xs := ns.map V.int) (fun i σ H' => ∃ (n : Int) (v : Option V), σ = [some (.ref a), some (.int n), v] ∧ H' = H ∧ 0 ≤ n ∧ n < 1000000007)
      ⟨0, none, rfl, rfl, by decide, by decide⟩ (fun i σ H' _ ⟨_, _, _, e, _, _⟩ => by rw [e]; exact hS) ?_ ?_⟩
    · rintro i y σ H' hi ⟨n, v, rfl, rfl, h0, h1⟩
      obtain ⟨z, rfl⟩ := ints_at hi
      refine ⟨_, rfl, _, _, rfl, rfl, .inl ⟨by omega, by omega⟩, _, rfl, _, _, rfl, rfl, .inl ⟨_, rfl, _, _, rfl, rfl, (by show (0 : Int) < 1000000007; decide), ?_⟩⟩
      exact ⟨(n * 41 + z) % 1000000007, _, rfl, rfl, Int.emod_nonneg _ (by decide), Int.emod_lt_of_pos _ (by decide)⟩
    · rintro σ H' ⟨n, v, rfl, rfl, h0, h1⟩
      intro p hp
      have s1 : Same H' (upd H' p (.dK [])) := fun b o e => by rw [upd_ne (ne_of_none e hp)]; exact e
      refine ⟨_, rfl, a, _, rfl, .inl (s1.seq hS), fun l hl => ?_⟩
      have npl : p ≠ l := ne_of_none upd_same hl
      have s2 : Same H' (upd (upd (upd H' p (.dK [])) l (.lst (ns.map V.int))) p (.dK (mergeK [] (penD l 0 0 0 n)))) := fun b o e => by
        rw [upd_ne (ne_of_none e hp), upd_ne (ne_of_none (s1 b o e) hl)]
        exact s1 b o e
      refine ⟨_, rfl, by rw [upd_ne npl, upd_same], penD l 0 0 0 n, rfl, (by show 5 ≤ 15; decide), ?_⟩
      refine k p l _ hp s2 ⟨ns, 0, 0, n, 0, upd_same, ?_, by decide, by decide, by decide, h0, by omega⟩
      rw [upd_ne npl.symm, upd_same]
theorem ok_draw (D : DefAt K mg "_law_draw" sDraw) (T : Txt K mg) : Cl P w K mg base 1 "_law_draw" (spDraw K) := by
  refine cl_of D scDraw (fun vs H Q E h => ?_) (fun _ _ _ _ _ _ us hl => match us, hl with | [_, _], _ => rfl) (fun f cdv A outer s H vs Q E hr h => ?_)
  · obtain ⟨p, c, m, many, rfl, _⟩ := h
    rfl
  · obtain ⟨p, c, m, many, rfl, HP, hm, m0, m1, k⟩ := h
    obtain ⟨ns, i, d, f, n, hH, hc, hi, hd, hn, hf0, hf1⟩ := HP.ex
    have hu := hu_of hr
    refine ⟨_, pss_cons (ps_dput hu (pv 0) pe_str (pe_op op_add (pe_dget hu (pv 0) pe_str (fun _ _ => rfl)) pe_int) rfl)
      (C8.pss_cut (ps_if (PW.pt (pw_and (pt_cmpR op_eq (pe_dget hu (pv 0) pe_str (fun _ _ => rfl)) pe_int (nomark _)) (pw_and1 (pt_cmpR op_lt (pe_dget hu (pv 0) pe_str (fun _ _ => rfl)) (pe_callB call_len_seq (by rfl) (by exact T.len) PySem.boot_len (pa_cons (pe_dget hu (pv 0) pe_str (fun _ _ => rfl)) pa_nil)) (nomark _)))))
        (pss_cons (ps_set (i := 2) scDraw.nd rfl (Or.inl rfl) (pe_ix ix_list (pe_dget hu (pv 0) pe_str (fun _ _ => rfl)) (pe_dget hu (pv 0) pe_str (fun _ _ => rfl)) (fun _ _ => rfl)))
        (pss_cons (ps_dput hu (pv 0) pe_str (pe_op op_add (pe_dget hu (pv 0) pe_str (fun _ _ => rfl)) pe_int) rfl)
        (pss_one (ps_if (pt_cmpR op_ge (pv 2) (pe_op op_pow pe_int pe_int) (nomark _))
          (pss_one (ps_dput hu (pv 0) pe_str (pe_op op_sub (pv 2) (pe_op op_pow pe_int pe_int)) rfl))
          (pss_one (ps_dput hu (pv 0) pe_str (pe_op op_mod (pe_callTy call_int1 (by rfl) (by exact T.int) PyProof.Rows.boot_int (pa_cons (pe_op op_add (pe_op op_mul (pe_dget hu (pv 0) pe_str (fun _ _ => rfl)) pe_int) (pv 2)) pa_nil)) pe_int) rfl))))))
        pss_nil)
      (pss_cons (ps_if (pt_cmpR op_gt (pe_dget hu (pv 0) pe_str (fun _ _ => rfl)) pe_int (nomark _))
        (pss_cons (ps_set (i := 3) scDraw.nd rfl (Or.inl rfl) (pe_op op_modN (pe_callTy call_int1 (by rfl) (by exact T.int) PyProof.Rows.boot_int (pa_cons (pe_dget hu (pv 0) pe_str (fun _ _ => rfl)) pa_nil)) (pv 1)))
        (pss_cons (ps_dput hu (pv 0) pe_str (pe_op op_fdivW (pe_dget hu (pv 0) pe_str (fun _ _ => rfl)) (pv 1)) rfl)
        (pss_one (ps_ret (pv 3))))) pss_nil)
      (pss_cons (ps_set (i := 4) scDraw.nd rfl (Or.inl rfl) (pe_op op_add (pe_op op_add (pe_dget hu (pv 0) pe_str (fun _ _ => rfl)) (pe_op op_mul (pe_dget hu (pv 0) pe_str (fun _ _ => rfl)) pe_int)) pe_int))
      (pss_one (ps_ret (pe_op op_modN (pe_op op_fdivN (pe_callTy call_int1 (by rfl) (by exact T.int) PyProof.Rows.boot_int (pa_cons (pe_op op_modN (pe_op op_pow (pv 4) pe_int) pe_int) pa_nil)) pe_int) (pv 1))))))), ?_⟩
    -- count
    refine ⟨_, rfl, p, _, rfl, g_count hH, _, _, rfl, rfl, _, rfl, p, _, rfl, p_count hH, ?_⟩
    have S1 : ∀ o, upd H p o c = some (.lst (ns.map V.int)) := fun o => HP.lst hc
    have S0 : ∀ o, SqL K (upd H p o) c (ns.map V.int) := fun o => .inl (.inl (S1 o))
    refine ⟨fun σ H' => ∃ (i' d' f' : Int) (v : Option V), σ = [some (.ref p), some (.int many), v, none, none] ∧ H' = upd H p (.dK (penD c i' d' ((n : Int) + 1) f')) ∧ 0 ≤ i' ∧ 0 ≤ d' ∧ 0 ≤ f' ∧ f' < 2147483587, ?_, ?_⟩
    · -- the digits are used up?
      refine ⟨_, rfl, p, _, rfl, g_digits upd_same, rfl, _, rfl, ?_⟩
      refine ite2 (fun _ => ?_) (fun _ => ⟨i, d, f, none, rfl, rfl, hi, hd, hf0, hf1⟩)
      refine ⟨_, rfl, p, _, rfl, g_at upd_same, _, rfl, p, _, rfl, g_cells upd_same, c, _, rfl, .inl (S0 _), _, _, rfl, rfl, _, rfl, ?_⟩
      refine ite2 (fun hlt => ?_) (fun _ => ⟨i, d, f, none, rfl, rfl, hi, hd, hf0, hf1⟩)
      have hlt := of_decide_eq_true hlt
      rw [List.length_map] at hlt
      obtain ⟨z, hz⟩ : ∃ z, (ns.map V.int)[i.toNat]? = some (V.int z) := by
        refine ⟨ns[i.toNat]'(by omega), ?_⟩
        rw [List.getElem?_map, List.getElem?_eq_getElem (by omega)]
        rfl
      have hat : atI (ns.map V.int) i = some (V.int z) := by
        have e : i = ((i.toNat : Nat) : Int) := by omega
        rw [e]
        exact atI_nat hz
      refine ⟨_, rfl, p, _, rfl, g_cells upd_same, _, rfl, p, _, rfl, g_at upd_same, c, _, _, _, rfl, rfl, S0 _, hat, ?_⟩
      refine ⟨_, rfl, p, _, rfl, g_at upd_same, _, _, rfl, rfl, _, rfl, p, _, rfl, p_at, ?_⟩
      refine ⟨_, rfl, _, _, rfl, rfl, ⟨by decide, by decide, by decide⟩, _, _, rfl, rfl, _, rfl, ?_⟩
      refine ite2 (fun hge => ?_) (fun _ => ?_)
      · have hge := of_decide_eq_true hge
        refine ⟨_, rfl, _, _, rfl, rfl, ⟨by decide, by decide, by decide⟩, _, _, rfl, rfl, _, rfl, p, _, rfl, p_digits, ?_⟩
        exact ⟨_, _, f, _, rfl, rfl, by omega, Int.sub_nonneg.mpr hge, hf0, hf1⟩
      · refine ⟨_, rfl, p, _, rfl, g_fold upd_same, _, _, rfl, rfl, .inl ⟨by omega, by omega⟩, _, rfl, _, _, rfl, rfl, .inl ⟨_, rfl, _, _, rfl, rfl, (by show (0 : Int) < 2147483587; decide), _, rfl, p, _, rfl, p_fold, ?_⟩⟩
        exact ⟨_, _, _, _, rfl, rfl, by omega, hd, Int.emod_nonneg _ (by decide), Int.emod_lt_of_pos _ (by decide)⟩
    · rintro σ H' ⟨i', d', f', v, rfl, rfl, hi', hd', hf0', hf1'⟩
      have pen : ∀ d'', 0 ≤ d'' → PenAt (upd H p (.dK (penD c i' d'' ((n : Int) + 1) f'))) p c (m + 1) := fun d'' h0 => ⟨ns, i', d'', f', n + 1, upd_same, S1 _, hi', h0, by omega, hf0', hf1'⟩
      refine ⟨_, rfl, p, _, rfl, g_digits upd_same, _, _, rfl, rfl, _, rfl, ?_⟩
      refine ite2 (fun _ => ?_) (fun _ => ?_)
      · refine ⟨_, rfl, p, _, rfl, g_digits upd_same, .inl ⟨_, rfl, _, rfl, _, _, rfl, rfl, by omega, ?_⟩⟩
        refine ⟨_, rfl, p, _, rfl, g_digits upd_same, _, rfl, _, _, rfl, rfl, ⟨m0, m1⟩, _, rfl, p, _, rfl, p_digits, ?_⟩
        refine ⟨_, rfl, ?_⟩
        exact k _ _ (Int.fmod_nonneg_of_pos _ m0) (Int.fmod_lt_of_pos _ m0) (pen _ (Int.ediv_nonneg hd' (by omega)))
      · refine ⟨_, rfl, p, _, rfl, g_fold upd_same, _, rfl, p, _, rfl, g_count upd_same, _, _, rfl, rfl, .inl ⟨by omega, by omega⟩, _, _, rfl, rfl, _, _, rfl, rfl, ?_⟩
        refine ⟨_, rfl, _, _, rfl, rfl, ⟨by decide, by decide, by omega⟩, _, _, rfl, rfl, (by show (2305843009213693951 : Int) ≠ 0; decide), .inl ⟨_, rfl, _, _, rfl, rfl, ⟨by decide, by decide⟩, _, rfl, _, _, rfl, rfl, by omega, ?_⟩⟩
        exact k _ _ (Int.fmod_nonneg_of_pos _ m0) (Int.fmod_lt_of_pos _ m0) (pen _ hd')
theorem SqT_upd {H : Hp} {p c : Addr} {xs : List V} {kvs : List (Key × V)} {o : HO} (h : SqT K H c xs) (hp : H p = some (.dK kvs)) : SqT K (upd H p o) c xs := by
  rcases h with (h | ⟨u, h⟩) | h
  · refine .inl (.inl ?_)
    rw [upd_ne (ne_of h hp (by intro z; cases z))]
    exact h
  · refine .inl (.inr ⟨u, ?_⟩)
    rw [upd_ne (ne_of h hp (by intro z; cases z))]
    exact h
  · exact .inr h
theorem ok_pick (D : DefAt K mg "_law_pick" sPick) (T : Txt K mg) (CD : Cl P w K mg base 1 "_law_draw" (spDraw K)) : Cl P w K mg base 2 "_law_pick" (spPick K) := by
  refine cl_of D scPick (fun vs H Q E h => ?_) (fun _ _ _ _ _ _ us hl => match us, hl with | [_, _], _ => rfl) (fun f cdv A outer s H vs Q E hr h => ?_)
  · obtain ⟨p, c, m, u, xs, rfl, _⟩ := h
    rfl
  · obtain ⟨p, c, m, u, xs, rfl, HP, hS, hm, m0, m1, k⟩ := h
    refine ⟨_, pss_one (ps_ret (pe_ix ix_seq (pv 1) (pe_cl CD hr (Nat.le_refl _) rfl (pa_cons (pv 0) (pa_cons (pe_callB call_len (by rfl) (by exact T.len) PySem.boot_len (pa_cons (pv 1) pa_nil)) pa_nil))) (fun _ _ => rfl))), ?_⟩
    obtain ⟨kvs, hk⟩ := HP.dict
    have hln : LenV K u H xs.length := by
      cases hS with
      | lst h => exact .inl ⟨_, h, rfl⟩
      | tup h => exact .inr ⟨_, h, rfl⟩
      | str h => exact ⟨h, by rw [List.length_map]; exact (Array.length_toList).symm⟩
    refine ⟨_, rfl, _, rfl, _, rfl, _, _, rfl, hln, ?_⟩
    refine ⟨p, c, m, _, rfl, HP, hm, by omega, ?_, fun v o v0 v1 HP' => ?_⟩
    · have h2 : (xs.length : Int).natAbs.log2 < 30 := PySem.Flt.log2_lt_of (by decide) (by omega)
      omega
    obtain ⟨y, hv⟩ : ∃ y, xs[v.toNat]? = some y := ⟨xs[v.toNat]'(by omega), List.getElem?_eq_getElem (by omega)⟩
    have e : v = ((v.toNat : Nat) : Int) := by omega
    have hq := k v.toNat y o hv HP'
    cases hS with
    | lst h => exact .inl ⟨_, xs, v, y, rfl, rfl, SqL_upd h hk, by rw [e]; exact atI_nat hv, hq⟩
    | tup h => exact .inr (.inl ⟨_, xs, v, y, rfl, rfl, SqT_upd h hk, by rw [e]; exact atI_nat hv, hq⟩)
    | @str z h =>
      rw [List.getElem?_map] at hv
      cases ec : z.cps.toList[v.toNat]? with
      | none => rw [ec] at hv; cases hv
      | some cc =>
        rw [ec] at hv
        obtain rfl := Option.some.inj hv
        exact .inr (.inr ⟨z, v, cc, rfl, rfl, h, by rw [e]; exact atI_nat ec, hq⟩)
end
end Wq

namespace Rb
/-- a number in groups of seven bits -/
def wh (n : Nat) : List Nat := if h : n > 127 then (128 + n % 128) :: wh (n / 128) else [n]
termination_by n
decreasing_by omega
theorem wh_big {n : Nat} (h : n > 127) : wh n = (128 + n % 128) :: wh (n / 128) := by rw [wh, dif_pos h]
theorem wh_small {n : Nat} (h : ¬ n > 127) : wh n = [n] := by rw [wh, dif_neg h]
theorem wh_lt (n : Nat) : ∀ b ∈ wh n, b < 256 := by
  induction n using Nat.strongRecOn with
  | ind n ih =>
    intro b hb
    by_cases h : n > 127
    · rw [wh_big h] at hb
      rcases List.mem_cons.mp hb with e | hb
      · omega
      · exact ih _ (by omega) b hb
    · rw [wh_small h] at hb
      have := List.mem_singleton.mp hb
      omega
/-- little-endian: k bytes of v; the value of bytes -/
def le : Nat → Nat → List Nat
  | 0, _ => []
  | k + 1, v => (v % 256) :: le k (v / 256)
def un : List Nat → Nat
  | [] => 0
  | b :: r => b + 256 * un r
theorem le_un {l : List Nat} (h : ∀ b ∈ l, b < 256) : le l.length (un l) = l := by
  induction l with
  | nil => rfl
  | cons b r ih =>
    have hb := h b (List.mem_cons_self ..)
    show ((b + 256 * un r) % 256) :: le r.length ((b + 256 * un r) / 256) = b :: r
    have e1 : (b + 256 * un r) % 256 = b := by omega
    have e2 : (b + 256 * un r) / 256 = un r := by omega
    rw [e1, e2, ih fun c hc => h c (List.mem_cons_of_mem _ hc)]
theorem le_len (k v : Nat) : (le k v).length = k := by
  induction k generalizing v with
  | zero => rfl
  | succ k ih => show (le k _).length + 1 = _; rw [ih]
theorem le_lt (k v : Nat) : ∀ b ∈ le k v, b < 256 := by
  induction k generalizing v with
  | zero => intro b hb; cases hb
  | succ k ih =>
    intro b hb
    rcases List.mem_cons.mp hb with e | hb
    · omega
    · exact ih _ b hb
theorem un_snoc (l : List Nat) (b : Nat) : un (l ++ [b]) = un l + 256 ^ l.length * b := by
  induction l with
  | nil => show b + 256 * 0 = 0 + 256 ^ 0 * b; omega
  | cons a r ih =>
    show a + 256 * un (r ++ [b]) = a + 256 * un r + 256 ^ (r.length + 1) * b
    rw [ih, Nat.pow_succ, Nat.mul_add, Nat.add_assoc]
    congr 2
    rw [← Nat.mul_assoc, Nat.mul_comm 256]
theorem un_lt {l : List Nat} (h : ∀ b ∈ l, b < 256) : un l < 256 ^ l.length := by
  induction l with
  | nil => decide
  | cons b r ih =>
    have hb := h b (List.mem_cons_self ..)
    have hr := ih fun c hc => h c (List.mem_cons_of_mem _ hc)
    show b + 256 * un r < 256 ^ (r.length + 1)
    rw [Nat.pow_succ]
    omega
theorem le_at {k v j : Nat} (h : j < k) : (le k v)[j]? = some (v / 256 ^ j % 256) := by
  induction k generalizing v j with
  | zero => omega
  | succ k ih =>
    cases j with
    | zero => show some (v % 256) = _; rw [Nat.pow_zero, Nat.div_one]
    | succ j =>
      show (le k (v / 256))[j]? = _
      rw [ih (by omega), Nat.div_div_eq_div_mul, Nat.pow_succ, Nat.mul_comm]
/-- numbers of w bits, the lowest first -/
def val (w : Nat) : List Nat → Nat
  | [] => 0
  | n :: r => n + 2 ^ w * val w r
theorem val_snoc (w : Nat) (l : List Nat) (b : Nat) : val w (l ++ [b]) = val w l + 2 ^ (w * l.length) * b := by
  induction l with
  | nil => show b + 2 ^ w * 0 = 0 + 2 ^ (w * 0) * b; rw [Nat.mul_zero, Nat.mul_zero, Nat.pow_zero]; omega
  | cons a r ih =>
    show a + 2 ^ w * val w (r ++ [b]) = a + 2 ^ w * val w r + 2 ^ (w * (r.length + 1)) * b
    rw [ih, Nat.mul_add, Nat.add_assoc, Nat.mul_succ, Nat.pow_add]
    congr 2
    rw [← Nat.mul_assoc, Nat.mul_comm (2 ^ w)]
theorem val_lt {w : Nat} {l : List Nat} (h : ∀ b ∈ l, b < 2 ^ w) : val w l < 2 ^ (w * l.length) := by
  induction l with
  | nil => show 0 < 2 ^ (w * 0); rw [Nat.mul_zero]; decide
  | cons b r ih =>
    have hb := h b (List.mem_cons_self ..)
    have hr := ih fun c hc => h c (List.mem_cons_of_mem _ hc)
    show b + 2 ^ w * val w r < 2 ^ (w * (r.length + 1))
    rw [Nat.mul_succ, Nat.pow_add, Nat.mul_comm (2 ^ (w * r.length))]
    have h1 : 2 ^ w * val w r + 2 ^ w ≤ 2 ^ w * 2 ^ (w * r.length) := by
      rw [← Nat.mul_succ]
      exact Nat.mul_le_mul_left _ hr
    omega
/-- the number in the middle -/
theorem val_at {w : Nat} {l : List Nat} {i n : Nat} (h : ∀ b ∈ l, b < 2 ^ w) (hi : l[i]? = some n) : val w l / 2 ^ (w * i) % 2 ^ w = n := by
  induction l generalizing i with
  | nil => cases hi
  | cons b r ih =>
    have hb := h b (List.mem_cons_self ..)
    cases i with
    | zero =>
      obtain rfl := Option.some.inj hi
      show (b + 2 ^ w * val w r) / 2 ^ (w * 0) % 2 ^ w = b
      rw [Nat.mul_zero, Nat.pow_zero, Nat.div_one, Nat.add_mul_mod_self_left, Nat.mod_eq_of_lt hb]
    | succ i =>
      have hr := ih (fun c hc => h c (List.mem_cons_of_mem _ hc)) hi
      show (b + 2 ^ w * val w r) / 2 ^ (w * (i + 1)) % 2 ^ w = n
      rw [Nat.mul_succ, Nat.add_comm (w * i), Nat.pow_add, ← Nat.div_div_eq_div_mul, Nat.add_mul_div_left _ _ (Nat.pow_pos (by decide)), Nat.div_eq_of_lt hb, Nat.zero_add]
      exact hr
theorem val_bit {w : Nat} {l : List Nat} {i n k : Nat} (h : ∀ b ∈ l, b < 2 ^ w) (hi : l[i]? = some n) (hk : k < w) : (val w l).testBit (w * i + k) = n.testBit k := by
  have e := val_at h hi
  have e2 : (val w l / 2 ^ (w * i) % 2 ^ w).testBit k = (val w l).testBit (w * i + k) := by
    rw [Nat.testBit_mod_two_pow, Nat.testBit_div_two_pow, decide_eq_true hk, Bool.true_and, Nat.add_comm]
  rw [← e2, e]
/-- disjoint bits put together -/
theorem or_shl {a k b : Nat} (h : a < 2 ^ k) : a ||| b <<< k = a + 2 ^ k * b := by
  rw [Nat.shiftLeft_eq, Nat.mul_comm b, Nat.or_comm, ← Nat.two_pow_add_eq_or_of_lt h, Nat.add_comm]
/-- the loop of bits: what was put out, what is held -/
structure Bp (V m : Nat) (out : List Nat) (held many : Nat) : Prop where
  by_ : ∀ b ∈ out, b < 256
  le_ : held < 2 ^ many
  eq_ : V = un out + 256 ^ out.length * held
  mn : m = 8 * out.length + many
theorem p256 (k : Nat) : 256 ^ k = 2 ^ (8 * k) := by
  rw [Nat.pow_mul]
theorem Bp.put {V m : Nat} {out : List Nat} {held many n w : Nat} (B : Bp V m out held many) (hn : n < 2 ^ w) : Bp (V + 2 ^ m * n) (m + w) out (held ||| n <<< many) (many + w) := by
  refine ⟨B.by_, ?_, ?_, ?_⟩
  · rw [or_shl B.le_, Nat.pow_add]
    have h1 : 2 ^ many * n + 2 ^ many ≤ 2 ^ many * 2 ^ w := by
      rw [← Nat.mul_succ]
      exact Nat.mul_le_mul_left _ hn
    have := B.le_
    omega
  · rw [or_shl B.le_, B.mn, Nat.pow_add, Nat.mul_add, ← Nat.add_assoc, ← B.eq_, p256, Nat.mul_assoc]
  · have := B.mn
    omega
theorem Bp.out {V m : Nat} {out : List Nat} {held many : Nat} (B : Bp V m out held many) (h : 8 ≤ many) : Bp V m (out ++ [held % 256]) (held / 256) (many - 8) := by
  refine ⟨?_, ?_, ?_, ?_⟩
  · intro b hb
    rcases List.mem_append.mp hb with h | h
    · exact B.by_ b h
    · have := List.mem_singleton.mp h
      omega
  · have h1 := B.le_
    have e : many = 8 + (many - 8) := by omega
    rw [e, Nat.pow_add] at h1
    exact Nat.div_lt_of_lt_mul h1
  · rw [un_snoc, List.length_append, Nat.add_assoc]
    show V = un out + (256 ^ out.length * (held % 256) + 256 ^ (out.length + 1) * (held / 256))
    rw [Nat.pow_succ, Nat.mul_assoc, ← Nat.mul_add, Nat.mod_add_div]
    exact B.eq_
  · rw [List.length_append]
    have := B.mn
    show m = 8 * (out.length + 1) + (many - 8)
    omega
theorem Bp.done {V m : Nat} {out : List Nat} {held many : Nat} (B : Bp V m out held many) (h : many < 8) : (if many > 0 then out ++ [held] else out) = le ((m + 7) / 8) V := by
  have hm := B.mn
  have hl := B.le_
  by_cases h0 : many > 0
  · rw [if_pos h0]
    have hh : held < 256 := Nat.lt_of_lt_of_le hl (Nat.pow_le_pow_right (n := 2) (j := 8) (by decide) (by omega))
    have e : V = un (out ++ [held]) := by rw [un_snoc]; exact B.eq_
    have el : (m + 7) / 8 = (out ++ [held]).length := by
      rw [List.length_append]
      show _ = out.length + 1
      omega
    rw [e, el, le_un]
    intro b hb
    rcases List.mem_append.mp hb with h | h
    · exact B.by_ b h
    · rw [List.mem_singleton.mp h]; exact hh
  · rw [if_neg h0]
    have e0 : many = 0 := by omega
    rw [e0, Nat.pow_zero] at hl
    have e1 : held = 0 := by omega
    have e : V = un out := by rw [B.eq_, e1]; rfl
    have el : (m + 7) / 8 = out.length := by omega
    rw [e, el, le_un B.by_]
inductive Wr
  | whole (n : Nat)
  | signs (t : List Nat)
  | bits (ns : List Nat) (w : Nat)
  | raw (bs : List Nat)
def row : Wr → List Nat
  | .whole n => wh n
  | .signs t => wh t.length ++ t
  | .bits ns w => le ((w * ns.length + 7) / 8) (val w ns)
  | .raw bs => bs
end Rb

set_option Elab.async false
set_option linter.all false
set_option maxRecDepth 100000
set_option maxHeartbeats 2000000
namespace Wq
open PySem PySem.Spec PyProof.Rows L2
open Rb (wh le un val Bp)
abbrev nI (n : Nat) : V := .int (n : Int)
theorem Same.new {H : Hp} {p : Addr} {o : HO} (h : H p = none) : Same H (upd H p o) := fun b u e => by
  rw [upd_ne (ne_of_none e h)]
  exact e
theorem Same.put {H H' : Hp} {p : Addr} {o : HO} (s : Same H H') (h : H p = none) : Same H (upd H' p o) := fun b u e => by
  rw [upd_ne (ne_of_none e h)]
  exact s _ _ e
theorem nats_at {ns : List Nat} {i : Nat} {y : V} (hi : (ns.map nI)[i]? = some y) : ∃ z, ns[i]? = some z ∧ y = nI z := by
  rw [List.getElem?_map] at hi
  cases e : ns[i]? with
  | none =>
    rw [e] at hi
    cases hi
  | some z =>
    rw [e] at hi
    exact ⟨z, rfl, (Option.some.inj hi).symm⟩
/-! operations on numbers from 0 on -/
theorem xorN (a b : Nat) : Builtin.bitXor (a : Int) (b : Int) = ((a ^^^ b : Nat) : Int) := by
  rw [Bits.bitXor_pp (by omega) (by omega), Int.toNat_natCast, Int.toNat_natCast]
theorem andN (a b : Nat) : Builtin.bitAnd (a : Int) (b : Int) = ((a &&& b : Nat) : Int) := by
  rw [bitAnd_pp (by omega) (by omega), Int.toNat_natCast, Int.toNat_natCast]
theorem orN (a b : Nat) : Builtin.bitOr (a : Int) (b : Int) = ((a ||| b : Nat) : Int) := by
  rw [Bits.bitOr_pp (by omega) (by omega), Int.toNat_natCast, Int.toNat_natCast]
theorem shlN (a k : Nat) : (a : Int) * 2 ^ k = ((a <<< k : Nat) : Int) := by
  rw [Nat.shiftLeft_eq, Int.natCast_mul, Int.natCast_pow]
  rfl
theorem shrN (a k : Nat) : (a : Int) / 2 ^ k = ((a >>> k : Nat) : Int) := by
  rw [Nat.shiftRight_eq_div_pow, Int.natCast_ediv, Int.natCast_pow]
  rfl
def rNN (C : Nat → Nat → Prop) (g : Nat → Nat → Nat) : R2 := fun x y H Q => ∃ n m : Nat, x = nI n ∧ y = nI m ∧ C n m ∧ Q (nI (g n m)) H
def cTt (_ _ : Nat) : Prop := True
def cSh (n k : Nat) : Prop := n < 2 ^ 64 + 1 ∧ k ≤ 1000000
theorem nn_of {X : Cx} {op : Value → Value → Sem Value} {C : Nat → Nat → Prop} {g : Nat → Nat → Nat} {D : Int → Int → Prop} {f : Int → Int → V} (ho : OpR X op (rI D f)) (hD : ∀ n m : Nat, C n m → D n m) (hf : ∀ n m : Nat, C n m → f n m = nI (g n m)) : OpR X op (rNN C g) := by
  intro pins s σ H x y v u Q I rx ry h
  obtain ⟨n, m, rfl, rfl, c, q⟩ := h
  exact ho pins s σ H _ _ v u Q I rx ry ⟨_, _, rfl, rfl, hD n m c, by rw [hf n m c]; exact q⟩
theorem nn_of0 {X : Cx} {op : Value → Value → Sem Value} {g : Nat → Nat → Nat} {f : Int → Int → V} (ho : OpR X op (rI0 f)) (hf : ∀ n m : Nat, f n m = nI (g n m)) : OpR X op (rNN cTt g) := by
  intro pins s σ H x y v u Q I rx ry h
  obtain ⟨n, m, rfl, rfl, _, q⟩ := h
  exact ho pins s σ H _ _ v u Q I rx ry ⟨_, _, rfl, rfl, by rw [hf n m]; exact q⟩
theorem shl_ok {n m : Nat} (c : cSh n m) : CShl n m := by
  refine ⟨by omega, ?_⟩
  have h1 : Builtin.Int.intBits (n : Int) ≤ 66 := by
    unfold Builtin.Int.intBits
    have h2 : (n : Int).natAbs.log2 < 65 := PySem.Flt.log2_lt_of (by decide) (by have := c.1; omega)
    split <;> omega
  have := c.2
  omega
section
variable {X : Cx}
theorem nn_xor : OpR X (binaryOp .BitXor) (rNN cTt fun n m => n ^^^ m) := nn_of0 op_xor fun n m => congrArg V.int (xorN n m)
theorem nn_and : OpR X (binaryOp .BitAnd) (rNN cTt fun n m => n &&& m) := nn_of0 op_and fun n m => congrArg V.int (andN n m)
theorem nn_or : OpR X (binaryOp .BitOr) (rNN cTt fun n m => n ||| m) := nn_of0 op_or fun n m => congrArg V.int (orN n m)
theorem nn_shl : OpR X (binaryOp .LShift) (rNN cSh fun n m => n <<< m) := nn_of op_shlW (fun n m c => shl_ok c) fun n m _ => congrArg V.int (by rw [Int.toNat_natCast]; exact shlN n m)
theorem nn_shr : OpR X (binaryOp .RShift) (rNN cTt fun n m => n >>> m) := nn_of op_shr (fun n m _ => by omega) fun n m _ => congrArg V.int (by rw [Int.toNat_natCast]; exact shrN n m)
theorem nn_add : OpR X (binaryOp .Add) (rNN cTt fun n m => n + m) := nn_of0 op_add fun n m => congrArg V.int (Int.natCast_add n m).symm
theorem ni_xor : PIp X .BitXor (rNN cTt fun n m => n ^^^ m) := nn_of0 iop_xor fun n m => congrArg V.int (xorN n m)
theorem ni_or : PIp X .BitOr (rNN cTt fun n m => n ||| m) := nn_of0 iop_or fun n m => congrArg V.int (orN n m)
theorem ni_add : PIp X .Add (rNN cTt fun n m => n + m) := nn_of0 iop_add fun n m => congrArg V.int (Int.natCast_add n m).symm
theorem ni_sub : PIp X .Sub (rNN (fun n m => m ≤ n) fun n m => n - m) := by
  intro pins s σ H x y v u Q I rx ry h
  obtain ⟨n, m, rfl, rfl, c, q⟩ := h
  refine ip_sub pins s σ H _ _ v u Q I rx ry ⟨_, _, rfl, rfl, ?_⟩
  have e : (n : Int) - (m : Int) = ((n - m : Nat) : Int) := by omega
  show Q (V.int ((n : Int) - (m : Int))) H
  rw [e]
  exact q
theorem ni_shl : PIp X .LShift (rNN cSh fun n m => n <<< m) := nn_of iop_shlW (fun n m c => shl_ok c) fun n m _ => congrArg V.int (by rw [Int.toNat_natCast]; exact shlN n m)
theorem ni_shr : PIp X .RShift (rNN cTt fun n m => n >>> m) := nn_of iop_shr (fun n m _ => by omega) fun n m _ => congrArg V.int (by rw [Int.toNat_natCast]; exact shrN n m)
theorem pgi {x : Str} {n : Int} {t : Tok} {pos : Pos} (hm : X.mg x = some (.int n t)) (hg : Gl X x := by rfl) (hd : (x == ("__debug__" : Str)) = false := by decide) : PE X (.Name x pos) (tC (.int n)) := pe_glob hg hm ⟨_, rfl⟩ hd
theorem pgs {x : Str} {z : Str} {t : Tok} {pos : Pos} (hm : X.mg x = some (.str z t)) (hg : Gl X x := by rfl) (hd : (x == ("__debug__" : Str)) = false := by decide) : PE X (.Name x pos) (tC (.str z)) := pe_glob hg hm ⟨_, rfl⟩ hd
end
/-! the signs -/
def SG : Str := "\n !\"#$&'()*+,-./0123456789:;<=>?@ABCDEFGHIJKLMNOPQRSTUVWXYZ[\\]^_`abcdefghijklmnopqrstuvwxyz{|}~"
def sgn (i : Nat) : Nat := SG.cps.toList.getD i 0
theorem SG_len : SG.cps.toList.length = 95 := by decide +kernel
theorem SG_index : ∀ i, i < 95 → Txt.index0 SG ⟨#[sgn i]⟩ = some i := by decide +kernel
theorem SG_at {i : Nat} (h : i < 95) : SG.cps.toList[i]? = some (sgn i) := by
  unfold sgn
  rw [List.getD_eq_getElem?_getD, List.getElem?_eq_getElem (by rw [SG_len]; exact h)]
  rfl
/-- the text of sign numbers -/
def txt (t : List Nat) : Str := ⟨(t.map sgn).toArray⟩
theorem txt_len (t : List Nat) : (txt t).length = t.length := by
  show (t.map sgn).toArray.size = _
  rw [List.size_toArray, List.length_map]
/-! methods -/
structure Mt (P : Program) (w : World) (K : PySem.W.Frag) (mg : Str → Option Value) (base : Heap) (k : Nat) (C : Addr) (m : Str) (sp : Sp) : Prop where
  ex : ∃ (f : Addr) (fd : FuncData) (ps : List Str), Cls K C ∧ Meth K C m f ∧ FnOk P w K mg base CX0 k f fd ps sp ∧ Binds K fd ps []
structure MAt (K : PySem.W.Frag) (C : Addr) (m qual : Str) (st : Stmt) : Prop where
  ex : ∃ (f : Addr) (fd : FuncData), Fun K m qual st f fd ∧ Meth K C m f
theorem m_mk {K : PySem.W.Frag} {C : Addr} {m qual : Str} {st : Stmt} {f : Addr} {oc : Value} {od an : Option Addr} {osl : Array (Option Value)} {kV doc pm cdv ct : Value}
    (a : PySem.W.findIn K (.ref C) m = some (some (.ref f))) (i : PySem.W.isFn K (.ref f) = true) (l : K.lookup f = some ⟨oc, od, .func (PySem.W.fnOf m qual (defArgs st) (defBody st) (defScope st) .none kV doc pm an cdv ct), osl⟩)
    (c : PySem.W.codeIn K cdv qual = true) (k : PySem.W.keepIn K (.ref f) = true) : MAt K C m qual st := ⟨f, _, fun_mk l c k, ⟨a, i, k⟩⟩
section
variable {X : Cx} {k j : Nat} {C : Addr} {x m : Str} {sp : Sp} {p pos apos : Pos} {e o : Expr} {es : List Expr} {ta : TE} {t : TA}
theorem pe_cl0 (c : Cl X.prog X.w X.K X.mg X.base k x sp) (hr : Room j X.A) (hk : k ≤ j) (hg : Gl X x) (hdb : (x == ("__debug__" : Str)) = false := by decide) : PE X (.Call (.Name x p) [] [] pos) (tCall sp [] E0 tNil) := by
  obtain ⟨f, fd, ps, F, hm, kp, b⟩ := c.ex
  exact pe_call0 F (hr.mono hk) hg hm kp b .nil pass0 hdb
end
end Wq

set_option Elab.async false
set_option linter.all false
set_option maxRecDepth 100000
set_option maxHeartbeats 2000000
set_option exponentiation.threshold 5000
namespace Wq
open PySem PySem.Spec PyProof.Rows L2
open Rb (wh le un val Bp)
/-! Writer -/
def wf (l : Addr) : List (Str × V) := putF "_row" (.ref l) []
theorem wf_row (l : Addr) : (wf l).lookup ("_row" : Str) = some (.ref l) := by
  unfold wf
  rw [lookup_putF, if_pos rfl]
theorem wf_no (l : Addr) {m : Str} (h : ¬ m = "_row") : (wf l).lookup m = none := by
  unfold wf
  rw [lookup_putF, if_neg h]
  rfl
/-- a Writer stands at p, its list at l holds r -/
structure WAt (C : Addr) (H : Hp) (p l : Addr) (r : List Nat) : Prop where
  ob : ∃ dx, H p = some (.ins C dx (wf l))
  ls : H l = some (.lst (r.map nI))
theorem WAt.ne {C : Addr} {H : Hp} {p l : Addr} {r : List Nat} (W : WAt C H p l r) : p ≠ l := by
  obtain ⟨dx, h⟩ := W.ob
  exact ne_of h W.ls (by intro z; cases z)
theorem WAt.put {C : Addr} {H : Hp} {p l : Addr} {r r' : List Nat} (W : WAt C H p l r) : WAt C (upd H l (.lst (r'.map nI))) p l r' := by
  obtain ⟨dx, h⟩ := W.ob
  exact ⟨⟨dx, by rw [upd_ne W.ne]; exact h⟩, upd_same⟩
/-- only the list at l is another one -/
def But (l : Addr) (H H' : Hp) : Prop := ∀ b o, H b = some o → b ≠ l → H' b = some o
theorem But.refl (l : Addr) (H : Hp) : But l H H := fun _ _ h _ => h
theorem But.trans {l : Addr} {H H1 H2 : Hp} (a : But l H H1) (b : But l H1 H2) : But l H H2 := fun c o h n => b c o (a c o h n) n
theorem But.up (l : Addr) (H : Hp) (o : HO) : But l H (upd H l o) := fun b u h n => by rw [upd_ne n]; exact h
theorem But.same {l : Addr} {H H1 : Hp} (a : Same H H1) : But l H H1 := fun c o h _ => a c o h
abbrev sWI : Stmt := inClass (top 7) 0
abbrev sWA : Stmt := inClass (top 7) 1
abbrev sWW : Stmt := inClass (top 7) 2
abbrev sWS : Stmt := inClass (top 7) 3
abbrev sWB : Stmt := inClass (top 7) 4
abbrev sWR : Stmt := inClass (top 7) 5
theorem scWI : FnScope ["self"] ["self"] (defScope sWI) := ⟨rfl, rfl, rfl, by decide +kernel, rfl, by decide +kernel, by decide +kernel⟩
theorem scWA : FnScope ["self"] ["self"] (defScope sWA) := ⟨rfl, rfl, rfl, by decide +kernel, rfl, by decide +kernel, by decide +kernel⟩
theorem scWW : FnScope ["self", "number"] ["self", "number"] (defScope sWW) := ⟨rfl, rfl, rfl, by decide +kernel, rfl, by decide +kernel, by decide +kernel⟩
theorem scWS : FnScope ["self", "text", "sign"] ["self", "text"] (defScope sWS) := ⟨rfl, rfl, rfl, by decide +kernel, rfl, by decide +kernel, by decide +kernel⟩
theorem scWB : FnScope ["self", "numbers", "width", "held", "many", "number"] ["self", "numbers", "width"] (defScope sWB) := ⟨rfl, rfl, rfl, by decide +kernel, rfl, by decide +kernel, by decide +kernel⟩
theorem scWR : FnScope ["self", "row"] ["self", "row"] (defScope sWR) := ⟨rfl, rfl, rfl, by decide +kernel, rfl, by decide +kernel, by decide +kernel⟩
structure TxtW (K : PySem.W.Frag) (mg : Str → Option Value) (C : Addr) : Prop where
  cl : Cls K C
  nR : NoAttr K C "_row"
  sg : ∃ t, mg "SIGNS" = some (.str SG t)
def spWI (C : Addr) : Sp := fun vs H Q _ => ∃ (p dx : Addr), vs = [.ref p] ∧ H p = some (.ins C dx []) ∧ ∀ (l : Addr) (H' : Hp), H l = none → WAt C H' p l [] → (∀ b o, H b = some o → b ≠ p → H' b = some o) → Q .non H'
def spWA (C : Addr) : Sp := fun vs H Q _ => ∃ (p l : Addr) (r : List Nat), vs = [.ref p] ∧ WAt C H p l r ∧ ∀ t, H t = none → Q (.ref t) (upd H t (.tup (r.map nI)))
/-- a deed that writes some bytes more -/
def wrote (C : Addr) (H : Hp) (p l : Addr) (r more : List Nat) (Q : VK) : Prop := ∀ H', But l H H' → WAt C H' p l (r ++ more) → Q .non H'
def spWW (C : Addr) : Sp := fun vs H Q _ => ∃ (p l : Addr) (r : List Nat) (n : Nat), vs = [.ref p, nI n] ∧ WAt C H p l r ∧ n < 2 ^ 4000 ∧ r.length ≤ 100000 ∧ wrote C H p l r (wh n) Q
def spWS (C : Addr) : Sp := fun vs H Q _ => ∃ (p l : Addr) (r t : List Nat), vs = [.ref p, .str (txt t)] ∧ WAt C H p l r ∧ (∀ i ∈ t, i < 95) ∧ t.length ≤ 1000 ∧ r.length ≤ 90000 ∧ wrote C H p l r (wh t.length ++ t) Q
def spWB (K : PySem.W.Frag) (C : Addr) : Sp := fun vs H Q _ => ∃ (p l a : Addr) (r ns : List Nat) (w : Nat), vs = [.ref p, .ref a, nI w] ∧ WAt C H p l r ∧ SqL K H a (ns.map nI) ∧ (∀ H', But l H H' → SqL K H' a (ns.map nI)) ∧ (∀ n ∈ ns, n < 2 ^ w) ∧ w ≤ 64 ∧ ns.length ≤ 1000 ∧ r.length ≤ 90000 ∧ wrote C H p l r (le ((w * ns.length + 7) / 8) (val w ns)) Q
def spWR (K : PySem.W.Frag) (C : Addr) : Sp := fun vs H Q _ => ∃ (p l a : Addr) (r bs : List Nat), vs = [.ref p, .ref a] ∧ WAt C H p l r ∧ SqT K H a (bs.map nI) ∧ r.length + bs.length ≤ 100000 ∧ wrote C H p l r bs Q
theorem pow128 (a b : Nat) (h : b ≤ 7 * a) : 2 ^ b ≤ 128 ^ a := by
  have e : (128 : Nat) = 2 ^ 7 := rfl
  rw [e, ← Nat.pow_mul]
  exact Nat.pow_le_pow_right (by decide) h
theorem wh_len (n k : Nat) (h : n < 128 ^ k) (hk : 0 < k) : (wh n).length ≤ k := by
  induction k generalizing n with
  | zero => omega
  | succ k ih =>
    by_cases h1 : n > 127
    · rw [Rb.wh_big h1]
      have h2 : n / 128 < 128 ^ k := by rw [Nat.pow_succ] at h; exact Nat.div_lt_of_lt_mul (by rw [Nat.mul_comm]; exact h)
      have h3 : 0 < k := by
        cases k with
        | zero => rw [Nat.pow_zero] at h2; omega
        | succ k => omega
      show (wh (n / 128)).length + 1 ≤ k + 1
      have := ih _ h2 h3
      omega
    · rw [Rb.wh_small h1]
      show 1 ≤ k + 1
      omega
section
variable {P : Program} {w : World} {K : PySem.W.Frag} {mg : Str → Option Value} {base : Heap} {C : Addr}
theorem ok_WI {f : Addr} {fd : FuncData} (F : Fun K "__init__" "Writer.__init__" sWI f fd) (T : TxtW K mg C) : FnOk P w K mg base CX0 1 f fd ["self"] (spWI C) := by
  refine F.ok scWI (fun vs H Q E h => ?_) (fun cdv A outer s H vs Q E hr h => ?_)
  · obtain ⟨p, dx, rfl, _⟩ := h
    rfl
  · obtain ⟨p, dx, rfl, hp, k⟩ := h
    refine ⟨_, pss_one (ps_fld (pv 0) (pe_lst pa_nil) rfl), ?_⟩
    refine ⟨Nat.zero_le _, fun l hl => ?_⟩
    have npl : p ≠ l := ne_of_none hp hl
    refine ⟨_, rfl, p, C, dx, [], rfl, (by rw [upd_ne npl]; exact hp), T.cl, T.nR, (by show 0 < 1000; decide), ?_⟩
    refine k l _ hl ⟨⟨dx, upd_same⟩, by rw [upd_ne npl.symm, upd_same]; rfl⟩ fun b o e hb => ?_
    rw [upd_ne hb, upd_ne (ne_of_none e hl)]
    exact e
theorem ok_WA {f : Addr} {fd : FuncData} (F : Fun K "all_bytes" "Writer.all_bytes" sWA f fd) (T : TxtW K mg C) (TT : Txt K mg) : FnOk P w K mg base CX0 1 f fd ["self"] (spWA C) := by
  refine F.ok scWA (fun vs H Q E h => ?_) (fun cdv A outer s H vs Q E hr h => ?_)
  · obtain ⟨p, l, r, rfl, _⟩ := h
    rfl
  · obtain ⟨p, l, r, rfl, W, k⟩ := h
    obtain ⟨dx, hp⟩ := W.ob
    refine ⟨_, pss_one (ps_ret (pe_callTy call_tuple_of (by rfl) (by exact TT.tuple) (by decide +kernel) (pa_cons (pe_fld (pv 0) rfl) pa_nil))), ?_⟩
    exact ⟨_, rfl, p, C, dx, _, _, rfl, hp, T.cl, T.nR, wf_row l, l, _, rfl, .inl ⟨.inl (.inl W.ls), fun t ht => k t ht⟩⟩
theorem ok_WW {f : Addr} {fd : FuncData} (F : Fun K "whole" "Writer.whole" sWW f fd) (T : TxtW K mg C) : FnOk P w K mg base CX0 1 f fd ["self", "number"] (spWW C) := by
  refine F.ok scWW (fun vs H Q E h => ?_) (fun cdv A outer s H vs Q E hr h => ?_)
  · obtain ⟨p, l, r, n, rfl, _⟩ := h
    rfl
  · obtain ⟨p, l, r, n, rfl, W, hn, hr0, k⟩ := h
    refine ⟨_, pss_cons (ps_while PassesOwn.never (pt_cmpR op_gt (pv 1) pe_int (nomark _))
      (pss_cons (ps_expr (pe_bm PySem.F.plainAttrs_list PySem.F.slot_list_append PySem.F.type_list_append mt_append (pe_fld (pv 0) rfl) (pa_cons (pe_op nn_add pe_int (pe_op nn_and (pv 1) pe_int)) pa_nil)))
      (pss_one (ps_aug (i := 1) scWW.nd rfl (Or.inl rfl) pe_int ni_shr))))
      (pss_one (ps_expr (pe_bm PySem.F.plainAttrs_list PySem.F.slot_list_append PySem.F.type_list_append mt_append (pe_fld (pv 0) rfl) (pa_cons (pv 1) pa_nil)))), ?_⟩
    have hwl : (wh n).length ≤ 572 := wh_len n 572 (Nat.lt_of_lt_of_le hn (pow128 572 4000 (by decide))) (by decide)
    refine while_by (fun σ H' => ∃ (m : Nat) (r' : List Nat), σ = [some (.ref p), some (nI m)] ∧ But l H H' ∧ WAt C H' p l r' ∧ r' ++ wh m = r ++ wh n) (fun σ H' => match σ with | [_, some (.int y)] => y.toNat | _ => 0)
      ⟨n, r, rfl, But.refl _ _, W, rfl⟩ ?_ ?_
    · rintro σ H' ⟨m, r', rfl, B, W', e⟩
      obtain ⟨dx, hp⟩ := W'.ob
      have hlen : r'.length ≤ 100572 := by
        have := congrArg List.length e
        rw [List.length_append, List.length_append] at this
        omega
      have hsz : (r'.map nI).length < sizeLine := by rw [List.length_map, sizeLine_eq]; omega
      refine ⟨_, rfl, _, _, rfl, rfl, _, rfl, ?_⟩
      refine ite2 (fun hc => ?_) (fun hc => ?_)
      · have hc : m > 127 := by have := of_decide_eq_true hc; omega
        refine ⟨_, rfl, p, C, dx, _, _, rfl, hp, T.cl, T.nR, wf_row l, .inl ⟨rfl, _, .inl (.inl W'.ls)⟩, _, rfl, m, 127, rfl, rfl, trivial, 128, _, rfl, rfl, trivial, l, _, _, rfl, rfl, W'.ls, hsz, ?_⟩
        refine ⟨_, rfl, m, 7, rfl, rfl, trivial, ?_⟩
        have em : m &&& 127 = m % 128 := Nat.and_two_pow_sub_one_eq_mod m 7
        have es : m >>> 7 = m / 128 := Nat.shiftRight_eq_div_pow m 7
        refine ⟨⟨m / 128, r' ++ [128 + m % 128], by rw [← es]; rfl, B.trans (But.up _ _ _), ?_, ?_⟩, ?_⟩
        · have e2 : (r'.map nI) ++ [nI (128 + (m &&& 127))] = (r' ++ [128 + m % 128]).map nI := by rw [List.map_append, em]; rfl
          show WAt C (upd H' l (.lst ((r'.map nI) ++ [nI (128 + (m &&& 127))]))) p l _
          rw [e2]
          exact W'.put
        · rw [List.append_assoc, ← e, Rb.wh_big hc]
          rfl
        · show ((m >>> 7 : Nat) : Int).toNat < m
          rw [es]
          omega
      · have hc : ¬ m > 127 := fun z => hc (decide_eq_true (by omega))
        refine ⟨_, rfl, p, C, dx, _, _, rfl, hp, T.cl, T.nR, wf_row l, .inl ⟨rfl, _, .inl (.inl W'.ls)⟩, _, rfl, l, _, _, rfl, rfl, W'.ls, hsz, ?_⟩
        refine k _ (B.trans (But.up _ _ _)) ?_
        have e2 : (r'.map nI) ++ [nI m] = (r ++ wh n).map nI := by rw [← e, Rb.wh_small hc, List.map_append]; rfl
        rw [e2]
        exact W'.put
    · intro σ H' Q' Q'' hq h
      obtain ⟨v, h1, h⟩ := h
      obtain ⟨i, j, e1, e2, k', e3, h⟩ := h
      exact ⟨v, h1, i, j, e1, e2, k', e3, hq _ _ h⟩
theorem ok_WS {f fW : Addr} {fd fdW : FuncData} (F : Fun K "signs" "Writer.signs" sWS f fd) (T : TxtW K mg C) (TT : Txt K mg) (MW : Meth K C "whole" fW) (GW : FnOk P w K mg base CX0 1 fW fdW ["self", "number"] (spWW C)) (bW : Binds K fdW ["self", "number"] []) : FnOk P w K mg base CX0 2 f fd ["self", "text"] (spWS C) := by
  refine F.ok scWS (fun vs H Q E h => ?_) (fun cdv A outer s H vs Q E hr h => ?_)
  · obtain ⟨p, l, r, t, rfl, _⟩ := h
    rfl
  · obtain ⟨p, l, r, t, rfl, W, ht, htl, hr0, k⟩ := h
    obtain ⟨tk, sg⟩ := T.sg
    obtain ⟨dx, hp⟩ := W.ob
    refine ⟨_, pss_cons (ps_expr (pe_meth (pv 0) T.cl MW GW hr bW .nil pass0 (pa_cons (pe_callB call_len_str (by rfl) (by exact TT.len) PySem.boot_len (pa_cons (pv 1) pa_nil)) pa_nil)))
      (pss_one (ps_for PassesOwn.never rfl (pi_str (pv 1)) (pg_name (i := 2) scWS.nd rfl (Or.inl rfl))
      (pss_one (ps_expr (pe_bm PySem.F.plainAttrs_list PySem.F.slot_list_append PySem.F.type_list_append mt_append (pe_fld (pv 0) rfl) (pa_cons (pe_bmS PySem.F.plainAttrs_str PySem.F.slot_str_index PySem.F.type_str_index (mt_indexX rfl takes0) (pgs (by exact sg)) (pa_cons (pv 2) pa_nil)) pa_nil)))))), ?_⟩
    refine ⟨_, rfl, p, dx, _, rfl, hp, wf_no l (by decide +kernel), _, rfl, _, rfl, ?_, ?_⟩
    · rw [txt_len, sizeLine_eq]
      omega
    refine ⟨p, l, r, t.length, by rw [txt_len]; rfl, W, ?_, by omega, fun H' B W' => ?_⟩
    · exact Nat.lt_of_lt_of_le (show t.length < 2 ^ 11 by omega) (Nat.pow_le_pow_right (by decide) (by decide))
    have hwl : (wh t.length).length ≤ 2 := wh_len _ 2 (by show t.length < 16384; omega) (by decide)
    refine ⟨_, rfl, _, rfl, for_it walk_str (fun i σ H2 => ∃ v : Option V, σ = [some (.ref p), some (.str (txt t)), v] ∧ But l H H2 ∧ WAt C H2 p l ((r ++ wh t.length) ++ t.take i))
      ⟨none, rfl, B, by rw [List.take_zero, List.append_nil]; exact W'⟩ (fun _ _ _ _ _ => trivial) ?_ ?_⟩
    · rintro i x σ H2 H3 hi ⟨v, rfl, B2, W2⟩ ⟨rfl, c, hc, rfl⟩
      have hi : i < t.length := by rw [← txt_len]; exact hi
      obtain ⟨z, hz⟩ : ∃ z, t[i]? = some z := ⟨t[i], List.getElem?_eq_getElem hi⟩
      have hz95 : z < 95 := ht z (List.mem_of_getElem? hz)
      have ec : c = sgn z := by
        have : (t.map sgn).toArray[i]? = some c := hc
        rw [List.getElem?_toArray, List.getElem?_map, hz] at this
        exact (Option.some.inj this).symm
      obtain ⟨dx2, hp2⟩ := W2.ob
      have hsz : (((r ++ wh t.length) ++ t.take i).map nI).length < sizeLine := by
        rw [List.length_map, List.length_append, List.length_append, List.length_take, sizeLine_eq]
        omega
      refine ⟨_, rfl, p, C, dx2, _, _, rfl, hp2, T.cl, T.nR, wf_row l, .inl ⟨rfl, _, .inl (.inl W2.ls)⟩, rfl, _, rfl, SG, ⟨#[c]⟩, rfl, rfl, fun k hk => ?_, fun hn _ => ?_⟩
      · rw [ec, SG_index z hz95] at hk
        obtain rfl := Option.some.inj hk
        refine ⟨l, _, _, rfl, rfl, W2.ls, hsz, ?_⟩
        refine ⟨some (.str ⟨#[c]⟩), rfl, B2.trans (But.up _ _ _), ?_⟩
        have e2 : (((r ++ wh t.length) ++ t.take i).map nI) ++ [nI z] = ((r ++ wh t.length) ++ t.take (i + 1)).map nI := by
          rw [List.take_add_one, hz, ← List.append_assoc, List.map_append (l₂ := (some z).toList)]
          rfl
        rw [e2]
        exact W2.put
      · rw [ec, SG_index z hz95] at hn
        cases hn
    · rintro σ H2 ⟨v, rfl, B2, W2⟩
      have e : (txt t).cps.size = t.length := txt_len t
      rw [e, List.take_length, List.append_assoc] at W2
      exact k H2 B2 W2
theorem ok_WR {f : Addr} {fd : FuncData} (F : Fun K "raw" "Writer.raw" sWR f fd) (T : TxtW K mg C) (TT : Txt K mg) : FnOk P w K mg base CX0 1 f fd ["self", "row"] (spWR K C) := by
  refine F.ok scWR (fun vs H Q E h => ?_) (fun cdv A outer s H vs Q E hr h => ?_)
  · obtain ⟨p, l, a, r, bs, rfl, _⟩ := h
    rfl
  · obtain ⟨p, l, a, r, bs, rfl, W, hS, hl, k⟩ := h
    obtain ⟨dx, hp⟩ := W.ob
    refine ⟨_, pss_one (ps_expr (pe_bm PySem.F.plainAttrs_list PySem.F.slot_list_extend PySem.F.type_list_extend mt_extend (pe_fld (pv 0) rfl) (pa_cons (pe_callTy call_list_of (by rfl) (by exact TT.list) (by decide +kernel) (pa_cons (pv 1) pa_nil)) pa_nil))), ?_⟩
    refine ⟨_, rfl, p, C, dx, _, _, rfl, hp, T.cl, T.nR, wf_row l, .inl ⟨rfl, _, .inl (.inl W.ls)⟩, _, rfl, a, _, rfl, .inr hS, fun b hb => ?_⟩
    have s1 := Same.new (o := .lst (bs.map nI)) hb
    have W1 : WAt C (upd H b (.lst (bs.map nI))) p l r := ⟨⟨dx, s1 _ _ hp⟩, s1 _ _ W.ls⟩
    refine ⟨l, b, _, _, rfl, rfl, W1.ls, upd_same, ?_, ?_⟩
    · rw [List.length_map, List.length_map, sizeLine_eq]
      omega
    refine k _ ((But.same s1).trans (But.up _ _ _)) ?_
    rw [← List.map_append]
    exact W1.put
theorem ok_WB {f : Addr} {fd : FuncData} (F : Fun K "bits" "Writer.bits" sWB f fd) (T : TxtW K mg C) : FnOk P w K mg base CX0 1 f fd ["self", "numbers", "width"] (spWB K C) := by
  refine F.ok scWB (fun vs H Q E h => ?_) (fun cdv A outer s H vs Q E hr h => ?_)
  · obtain ⟨p, l, a, r, ns, w', rfl, _⟩ := h
    rfl
  · obtain ⟨p, l, a, r, ns, w', rfl, W, hS, hS', hn, hw, hnl, hrl, k⟩ := h
    refine ⟨_, pss_cons (ps_set (i := 3) scWB.nd rfl (Or.inl rfl) pe_int)
      (pss_cons (ps_set (i := 4) scWB.nd rfl (Or.inl rfl) pe_int)
      (pss_cons (ps_for PassesOwn.never rfl (pi_list (pv 1)) (pg_name (i := 5) scWB.nd rfl (Or.inl rfl))
      (pss_cons (ps_aug (i := 3) scWB.nd rfl (Or.inl rfl) (pe_op nn_shl (pv 5) (pv 4)) ni_or)
      (pss_cons (ps_aug (i := 4) scWB.nd rfl (Or.inl rfl) (pv 2) ni_add)
      (pss_one (ps_while PassesOwn.never (pt_cmpR op_ge (pv 4) pe_int (nomark _))
      (pss_cons (ps_expr (pe_bm PySem.F.plainAttrs_list PySem.F.slot_list_append PySem.F.type_list_append mt_append (pe_fld (pv 0) rfl) (pa_cons (pe_op nn_and (pv 3) pe_int) pa_nil)))
      (pss_cons (ps_aug (i := 3) scWB.nd rfl (Or.inl rfl) pe_int ni_shr)
      (pss_one (ps_aug (i := 4) scWB.nd rfl (Or.inl rfl) pe_int ni_sub)))))))))
      (pss_one (ps_if (pt_cmpR op_gt (pv 4) pe_int (nomark _))
      (pss_one (ps_expr (pe_bm PySem.F.plainAttrs_list PySem.F.slot_list_append PySem.F.type_list_append mt_append (pe_fld (pv 0) rfl) (pa_cons (pv 3) pa_nil))))
      pss_nil)))), ?_⟩
    have bigL : ∀ {V m : Nat} {out : List Nat} {held many : Nat}, Bp V m out held many → m ≤ 64000 → ((r ++ out).map nI).length < sizeLine := fun B hm => by
      have := B.mn
      rw [List.length_map, List.length_append, sizeLine_eq]
      omega
    refine ⟨_, rfl, a, rfl, ⟨_, hS⟩, for_list (K := K) (a := a) (xs := ns.map nI) (fun i σ H' => ∃ (v : Option V) (out : List Nat) (held many : Nat), σ = [some (.ref p), some (.ref a), some (nI w'), some (nI held), some (nI many), v] ∧ But l H H' ∧ WAt C H' p l (r ++ out) ∧ Bp (val w' (ns.take i)) (w' * (ns.take i).length) out held many ∧ many < 8)
      ⟨none, [], 0, 0, rfl, But.refl _ _, by rw [List.append_nil]; exact W, ⟨(fun b hb => nomatch hb), (by decide), rfl, rfl⟩, (by decide)⟩ (fun i σ H' _ ⟨_, _, _, _, _, B, _⟩ => hS' _ B) ?_ ?_⟩
    · rintro i y σ H' hi ⟨v, out, held, many, rfl, B, W1, bp, hm8⟩
      obtain ⟨n, hni, rfl⟩ := nats_at hi
      have hn64 : n < 2 ^ w' := hn n (List.mem_of_getElem? hni)
      have hn65 : n < 2 ^ 64 := Nat.lt_of_lt_of_le hn64 (Nat.pow_le_pow_right (by decide) hw)
      have hil := (List.getElem?_eq_some_iff.mp hni).1
      have bp1 := bp.put hn64
      have et : ns.take (i + 1) = ns.take i ++ [n] := by rw [List.take_add_one, hni]; rfl
      have el : (ns.take i).length = i := by rw [List.length_take]; omega
      have el1 : (ns.take (i + 1)).length = i + 1 := by rw [List.length_take]; omega
      have eV : val w' (ns.take i) + 2 ^ (w' * (ns.take i).length) * n = val w' (ns.take (i + 1)) := by rw [et, Rb.val_snoc]
      have eM : w' * (ns.take i).length + w' = w' * (ns.take (i + 1)).length := by rw [el, el1, Nat.mul_succ]
      rw [eV, eM] at bp1
      have hmb : w' * (ns.take (i + 1)).length ≤ 64000 := Nat.le_trans (Nat.mul_le_mul hw (show (ns.take (i + 1)).length ≤ 1000 by omega)) (by decide)
      generalize w' * (ns.take (i + 1)).length = M at *
      generalize val w' (ns.take (i + 1)) = VV at *
      refine ⟨_, rfl, _, rfl, _, rfl, n, many, rfl, rfl, ⟨by omega, by omega⟩, held, _, rfl, rfl, trivial, ?_⟩
      refine ⟨_, rfl, _, rfl, many, w', rfl, rfl, trivial, ?_⟩
      refine while_by (fun σ H' => ∃ (out : List Nat) (held many : Nat), σ = [some (.ref p), some (.ref a), some (nI w'), some (nI held), some (nI many), some (nI n)] ∧ But l H H' ∧ WAt C H' p l (r ++ out) ∧ Bp VV M out held many) (fun σ H' => match σ with | [_, _, _, _, some (.int y), _] => y.toNat | _ => 0)
        ⟨out, _, _, rfl, B, W1, bp1⟩ ?_ ?_
      · rintro σ H2 ⟨out, held, many, rfl, B, W2, bp2⟩
        obtain ⟨dx2, hp2⟩ := W2.ob
        refine ⟨_, rfl, _, _, rfl, rfl, _, rfl, ?_⟩
        refine ite2 (fun hc => ?_) (fun hc => ?_)
        · have hc : 8 ≤ many := by have := of_decide_eq_true hc; omega
          refine ⟨_, rfl, p, C, dx2, _, _, rfl, hp2, T.cl, T.nR, wf_row l, .inl ⟨rfl, _, .inl (.inl W2.ls)⟩, _, rfl, held, 255, rfl, rfl, trivial, l, _, _, rfl, rfl, W2.ls, bigL bp2 hmb, ?_⟩
          refine ⟨_, rfl, held, 8, rfl, rfl, trivial, _, rfl, many, 8, rfl, rfl, hc, ?_⟩
          have em : held &&& 255 = held % 256 := Nat.and_two_pow_sub_one_eq_mod held 8
          have es : held >>> 8 = held / 256 := Nat.shiftRight_eq_div_pow held 8
          have bp3 := bp2.out hc
          refine ⟨⟨out ++ [held % 256], held / 256, many - 8, by rw [← es]; rfl, B.trans (But.up _ _ _), ?_, bp3⟩, ?_⟩
          · have e2 : ((r ++ out).map nI) ++ [nI (held &&& 255)] = (r ++ (out ++ [held % 256])).map nI := by rw [← List.append_assoc, List.map_append (l₂ := [held % 256]), em]; rfl
            show WAt C (upd H2 l (.lst (((r ++ out).map nI) ++ [nI (held &&& 255)]))) p l _
            rw [e2]
            exact W2.put
          · show ((many - 8 : Nat) : Int).toNat < many
            omega
        · have hc : many < 8 := by
            have : ¬ (8 : Int) ≤ (many : Int) := fun z => hc (decide_eq_true z)
            omega
          exact ⟨_, out, held, many, rfl, B, W2, bp2, hc⟩
      · intro σ H' Q' Q'' hq h
        obtain ⟨v, h1, h⟩ := h
        obtain ⟨i, j, e1, e2, k', e3, h⟩ := h
        exact ⟨v, h1, i, j, e1, e2, k', e3, hq _ _ h⟩
    · rintro σ H' ⟨v, out, held, many, rfl, B, W1, bp, hm8⟩
      rw [List.length_map, List.take_length] at bp
      obtain ⟨dx1, hp1⟩ := W1.ob
      have hd := bp.done hm8
      have hmb : w' * ns.length ≤ 64000 := Nat.le_trans (Nat.mul_le_mul hw hnl) (by decide)
      refine ⟨_, rfl, _, _, rfl, rfl, _, rfl, ?_⟩
      refine ite2 (fun hc => ?_) (fun hc => ?_)
      · have hc : many > 0 := by have := of_decide_eq_true hc; omega
        rw [if_pos hc] at hd
        refine ⟨_, rfl, p, C, dx1, _, _, rfl, hp1, T.cl, T.nR, wf_row l, .inl ⟨rfl, _, .inl (.inl W1.ls)⟩, _, rfl, l, _, _, rfl, rfl, W1.ls, bigL bp hmb, ?_⟩
        refine k _ (B.trans (But.up _ _ _)) ?_
        have e2 : ((r ++ out).map nI) ++ [nI held] = (r ++ le ((w' * ns.length + 7) / 8) (val w' ns)).map nI := by rw [← hd, ← List.append_assoc, List.map_append (l₂ := [held])]; rfl
        rw [e2]
        exact W1.put
      · have hc : ¬ many > 0 := fun z => hc (decide_eq_true (by omega))
        rw [if_neg hc] at hd
        refine k _ B ?_
        rw [← hd]
        exact W1
end
end Wq

set_option Elab.async false
set_option linter.all false
set_option maxRecDepth 100000
set_option maxHeartbeats 2000000
namespace Wq
open PySem PySem.Spec PyProof.Rows L2
open Rb (wh le un val Bp Wr)
theorem fold_rep (c n : Nat) (a : Array Nat) : (List.replicate n #[c]).foldl (· ++ ·) a = a ++ (List.replicate n c).toArray := by
  induction n generalizing a with
  | zero => simp
  | succ n ih =>
    rw [List.replicate_succ, List.foldl_cons, ih, List.replicate_succ]
    apply Array.ext'
    simp
theorem op_rep1 {X : Cx} : OpR X (binaryOp .Mult) (fun x y H Q => ∃ (c n : Nat), x = .str ⟨#[c]⟩ ∧ y = nI n ∧ n ≤ 1000 ∧ Q (.str ⟨(List.replicate n c).toArray⟩) H) := by
  intro pins s σ H x y v u Q I rx ry h
  obtain ⟨c, n, rfl, rfl, hn, q⟩ := h
  obtain ⟨t, rfl⟩ := rx
  obtain ⟨t', rfl⟩ := ry
  have h1000 : 1000 ≤ sizeLine := by rw [sizeLine_eq]; decide
  refine PySem.P.mul_str ?_ (fun h1 _ => ?_) (fun _ _ => ?_) ?_
  · rw [decide_eq_false (by omega), decide_eq_false (by omega)]; rfl
  · show ¬ (((1 : Nat) : Int) > (2 ^ 63 - 1) / (n : Int))
    have h2 : 1 ≤ ((2 : Int) ^ 63 - 1) / (n : Int) := by
      rw [Int.le_ediv_iff_mul_le (by omega)]
      omega
    omega
  · have e : (⟨#[c]⟩ : Str).length * (n : Int).toNat = n := by
      show 1 * (n : Int).toNat = n
      omega
    rw [e]
    exact decide_eq_false (by omega)
  · by_cases h0 : (n : Int) < 1
    · rw [if_pos h0]
      have e : n = 0 := by omega
      subst e
      exact ⟨by decide, ⟨.str Str.empty, H, I.tok _, ⟨_, rfl⟩, q⟩⟩
    · rw [if_neg h0]
      by_cases h1 : n = 1
      · subst h1
        rw [if_pos (show ((((1 : Nat) : Int) == 1) || (⟨#[c]⟩ : Str).length == 0) = true from rfl)]
        exact ⟨.str ⟨#[c]⟩, H, I, ⟨_, rfl⟩, q⟩
      · have hb : ((n : Int) == 1 || (⟨#[c]⟩ : Str).length == 0) = false := by
          have h2 : ((n : Int) == 1) = false := by
            rw [beq_eq_false_iff_ne]
            omega
          rw [h2]; rfl
        rw [hb, if_neg (by decide)]
        have e : (⟨(List.replicate (n : Int).toNat (⟨#[c]⟩ : Str).cps).foldl (· ++ ·) #[]⟩ : Str) = ⟨(List.replicate n c).toArray⟩ := by
          rw [Int.toNat_natCast]
          show (⟨(List.replicate n #[c]).foldl (· ++ ·) #[]⟩ : Str) = _
          rw [fold_rep]
          simp
        rw [e]
        refine ⟨?_, ⟨.str ⟨(List.replicate n c).toArray⟩, H, I.tok _, ⟨_, rfl⟩, q⟩⟩
        show (List.replicate n c).toArray.size ≤ sizeLine
        rw [List.size_toArray, List.length_replicate]
        omega
/-! writings -/
def gd : Wr → Prop
  | .whole n => n < 2 ^ 200
  | .signs t => (∀ i ∈ t, i < 95) ∧ t.length ≤ 200
  | .bits ns w => (∀ n ∈ ns, n < 2 ^ w) ∧ w ≤ 64 ∧ ns.length ≤ 8
  | .raw bs => (∀ n ∈ bs, n < 256) ∧ bs.length ≤ 8
/-- a writing stands at t -/
def Wrt (H : Hp) (t : Addr) : Wr → Prop
  | .whole n => H t = some (.tup [.str "whole", nI n])
  | .signs s => H t = some (.tup [.str "signs", .str (txt s)])
  | .bits ns w => ∃ a, H t = some (.tup [.str "bits", .ref a, nI w]) ∧ H a = some (.lst (ns.map nI))
  | .raw bs => ∃ a, H t = some (.tup [.str "raw", .ref a]) ∧ H a = some (.lst (bs.map nI))
theorem Wrt.same {H H' : Hp} {t : Addr} {x : Wr} (h : Wrt H t x) (s : Same H H') : Wrt H' t x := by
  cases x with
  | whole n => exact s _ _ h
  | signs z => exact s _ _ h
  | bits ns w => obtain ⟨a, h1, h2⟩ := h; exact ⟨a, s _ _ h1, s _ _ h2⟩
  | raw bs => obtain ⟨a, h1, h2⟩ := h; exact ⟨a, s _ _ h1, s _ _ h2⟩
/-- the same, and its list is a new one -/
def WrtN (H H' : Hp) (t : Addr) : Wr → Prop
  | .whole n => H' t = some (.tup [.str "whole", nI n])
  | .signs s => H' t = some (.tup [.str "signs", .str (txt s)])
  | .bits ns w => ∃ a, H a = none ∧ H' t = some (.tup [.str "bits", .ref a, nI w]) ∧ H' a = some (.lst (ns.map nI))
  | .raw bs => ∃ a, H a = none ∧ H' t = some (.tup [.str "raw", .ref a]) ∧ H' a = some (.lst (bs.map nI))
abbrev sWriting : Stmt := top 13
abbrev NWriting : List Str := ["_law_pen_here", "_law_way", "_law_great", "_law_long", "_law_width", "_law_top", "_law_k"]
theorem scWriting : FnScope NWriting ["_law_pen_here"] (defScope sWriting) := ⟨rfl, rfl, rfl, by decide +kernel, rfl, by decide +kernel, by decide +kernel⟩
abbrev sSigns : Stmt := top 5
theorem scSigns : FnScope [] [] (defScope sSigns) := ⟨rfl, rfl, rfl, by decide +kernel, rfl, by decide +kernel, by decide +kernel⟩
def spSigns : Sp := fun vs H Q _ => vs = [] ∧ Q (.str SG) H
/-- only the pen moved on, and new things were made -/
def spWriting : Sp := fun vs H Q _ => ∃ (p c : Addr) (m : Nat), vs = [.ref p] ∧ PenAt H p c m ∧ m < 1000000 ∧
  ∀ (t : Addr) (x : Wr) (H' : Hp), H t = none → gd x → WrtN H H' t x → But p H H' → PenAt H' p c (m + 500) → Q (.ref t) H'
theorem But.free {p : Addr} {H H' : Hp} {t : Addr} {o : HO} (B : But p H H') (hp : H' p = some o) (h : H' t = none) : H t = none := by
  cases e : H t with
  | none => rfl
  | some u =>
    by_cases n : t = p
    · rw [n, hp] at h; cases h
    · rw [B t u e n] at h; cases h
theorem But.put {p : Addr} {H G : Hp} {D : Addr} {o : HO} (B : But p H G) (h : H D = none) : But p H (upd G D o) := fun b u e n => by
  rw [upd_ne (ne_of_none e h)]
  exact B b u e n
theorem greats {i : Nat} {v : V} (h : ([V.int 4, V.int 127, V.int 128, V.int 129, V.int 16383, V.int 16384, V.int (10 ^ Int.toNat 30)] : List V)[i]? = some v) : ∃ g : Nat, v = nI g ∧ g ≤ 10 ^ 30 := by
  match i, h with
  | 0, h => exact ⟨4, (Option.some.inj h).symm, by decide⟩
  | 1, h => exact ⟨127, (Option.some.inj h).symm, by decide⟩
  | 2, h => exact ⟨128, (Option.some.inj h).symm, by decide⟩
  | 3, h => exact ⟨129, (Option.some.inj h).symm, by decide⟩
  | 4, h => exact ⟨16383, (Option.some.inj h).symm, by decide⟩
  | 5, h => exact ⟨16384, (Option.some.inj h).symm, by decide⟩
  | 6, h => exact ⟨10 ^ 30, (Option.some.inj h).symm, Nat.le_refl _⟩
  | n + 7, h => cases h
theorem widths {i : Nat} {v : V} (h : ([V.int 0, V.int 1, V.int 3, V.int 7, V.int 8, V.int 9, V.int 13, V.int 64] : List V)[i]? = some v) : ∃ g : Nat, v = nI g ∧ g ≤ 64 := by
  match i, h with
  | 0, h => exact ⟨0, (Option.some.inj h).symm, by decide⟩
  | 1, h => exact ⟨1, (Option.some.inj h).symm, by decide⟩
  | 2, h => exact ⟨3, (Option.some.inj h).symm, by decide⟩
  | 3, h => exact ⟨7, (Option.some.inj h).symm, by decide⟩
  | 4, h => exact ⟨8, (Option.some.inj h).symm, by decide⟩
  | 5, h => exact ⟨9, (Option.some.inj h).symm, by decide⟩
  | 6, h => exact ⟨13, (Option.some.inj h).symm, by decide⟩
  | 7, h => exact ⟨64, (Option.some.inj h).symm, by decide⟩
  | n + 8, h => cases h
/-- the signs as texts of one sign -/
def sg1 (i : Nat) : V := .str ⟨#[sgn i]⟩
theorem sg_pick {i : Nat} {v : V} (h : (SG.cps.toList.map fun c => V.str ⟨#[c]⟩)[i]? = some v) : i < 95 ∧ v = sg1 i := by
  have hl := (List.getElem?_eq_some_iff.mp h).1
  rw [List.length_map, SG_len] at hl
  rw [List.getElem?_map, SG_at hl] at h
  exact ⟨hl, (Option.some.inj h).symm⟩
theorem SG_small : SG.length ≤ sizeLine := by
  rw [sizeLine_eq]
  decide +kernel
theorem SG_Some {K : PySem.W.Frag} {H : Hp} : Some K H (.str SG) (SG.cps.toList.map fun c => V.str ⟨#[c]⟩) := .str SG_small
theorem SG_lens : 0 < (SG.cps.toList.map fun c => V.str ⟨#[c]⟩).length ∧ (SG.cps.toList.map fun c => V.str ⟨#[c]⟩).length < 1073741824 := by
  rw [List.length_map, SG_len]
  decide
theorem joinL_nil : ∀ ps : List (List Nat), TL.joinL [] ps = ps.flatten
  | [] => rfl
  | [p] => by simp [TL.joinL]
  | p :: q :: r => by
    show p ++ ([] ++ TL.joinL [] (q :: r)) = _
    rw [joinL_nil (q :: r)]
    simp
theorem join_signs (t : List Nat) : Txt.join ("" : Str) (t.map fun i => (⟨#[sgn i]⟩ : Str)) = txt t := by
  apply TL.ext_tl
  rw [TL.join_eq, TL.tl_join]
  show TL.joinL [] _ = (t.map sgn).toArray.toList
  rw [joinL_nil, List.map_map]
  induction t with
  | nil => rfl
  | cons a r ih =>
    show sgn a :: _ = sgn a :: _
    congr 1
theorem ones_sum (t : List Nat) : ((t.map fun i => (⟨#[sgn i]⟩ : Str)).map (·.length)).sum = t.length := by
  induction t with
  | nil => rfl
  | cons a r ih =>
    rw [List.map_cons, List.map_cons, List.sum_cons, ih, List.length_cons]
    show 1 + r.length = r.length + 1
    omega
theorem rep_txt (i n : Nat) (t : List Nat) : (⟨(List.replicate n (sgn i)).toArray⟩ : Str) ++ txt t = txt (List.replicate n i ++ t) := by
  apply TL.ext_tl
  show ((List.replicate n (sgn i)).toArray ++ (t.map sgn).toArray).toList = ((List.replicate n i ++ t).map sgn).toArray.toList
  simp
section
variable {P : Program} {w : World} {K : PySem.W.Frag} {mg : Str → Option Value} {base : Heap}
theorem ok_signs (D : DefAt K mg "all_signs" sSigns) (sg : ∃ t, mg "SIGNS" = some (.str SG t)) : Cl P w K mg base 1 "all_signs" spSigns := by
  refine cl_of D scSigns (fun vs H Q E h => ?_) (fun _ _ _ _ _ _ us hl => match us, hl with | [], _ => rfl) (fun f cdv A outer s H vs Q E hr h => ?_)
  · obtain ⟨rfl, _⟩ := h
    rfl
  · obtain ⟨rfl, k⟩ := h
    obtain ⟨t, sg⟩ := sg
    exact ⟨_, pss_one (ps_ret (pgs (by exact sg))), k⟩
theorem ok_writing (D : DefAt K mg "_law_writing" sWriting) (T : Txt K mg) (CD : Cl P w K mg base 1 "_law_draw" (spDraw K)) (CP : Cl P w K mg base 2 "_law_pick" (spPick K)) (CS : Cl P w K mg base 1 "all_signs" spSigns) : Cl P w K mg base 3 "_law_writing" spWriting := by
  refine cl_of D scWriting (fun vs H Q E h => ?_) (fun _ _ _ _ _ _ us hl => match us, hl with | [_], _ => rfl) (fun f cdv A outer s H vs Q E hr h => ?_)
  · obtain ⟨p, c, m, rfl, _⟩ := h
    rfl
  · obtain ⟨p, c, m, rfl, HP, hm, k⟩ := h
    refine ⟨_, pss_cons (ps_set (i := 1) scWriting.nd rfl (Or.inl rfl) (pe_cl CD hr (by decide) rfl (pa_cons (pv 0) (pa_cons pe_int pa_nil))))
(pss_cons (ps_if (pt_cmpR op_lt (pv 1) pe_int (nomark _))
(pss_cons (ps_set (i := 2) scWriting.nd rfl (Or.inl rfl) (pe_cl CP hr (by decide) rfl (pa_cons (pv 0) (pa_cons (pe_lst (pa_cons pe_int (pa_cons pe_int (pa_cons pe_int (pa_cons pe_int (pa_cons pe_int (pa_cons pe_int (pa_cons (pe_op op_pow pe_int pe_int) pa_nil)))))))) pa_nil))))
(pss_one (ps_ret (pe_tup (pa_cons pe_str (pa_cons (pe_ifExp (pt_cmpR op_eq (pe_cl CD hr (by decide) rfl (pa_cons (pv 0) (pa_cons pe_int pa_nil))) pe_int (nomark _)) (pe_cl CD hr (by decide) rfl (pa_cons (pv 0) (pa_cons (pe_op op_add pe_int (pv 2)) pa_nil))) (pv 2)) pa_nil))))))
pss_nil)
(pss_cons (ps_if (pt_cmpR op_eq (pv 1) pe_int (nomark _))
(pss_cons (ps_set (i := 3) scWriting.nd rfl (Or.inl rfl) (pe_op op_rep1 (pe_cl CP hr (by decide) rfl (pa_cons (pv 0) (pa_cons (pe_cl0 CS hr (by decide) rfl) pa_nil))) (pe_op op_mul (pe_op op_add pe_int (pe_cl CD hr (by decide) rfl (pa_cons (pv 0) (pa_cons pe_int pa_nil)))) (pe_callTy call_int1 (by rfl) (by exact T.int) PyProof.Rows.boot_int (pa_cons (pe_cmpR op_eq (pe_cl CD hr (by decide) rfl (pa_cons (pv 0) (pa_cons pe_int pa_nil))) pe_int (nomark _)) pa_nil)))))
(pss_one (ps_ret (pe_tup (pa_cons pe_str (pa_cons (pe_op op_add_str (pv 3) (pe_join pe_str (pe_lc (own := [("_law_k", 6)]) (g := gName 6) (tt := tYes) (by rfl) scWriting.nd (pi_range1 rfl (by exact T.range) (pa_cons (pe_cl CD hr (by decide) rfl (pa_cons (pv 0) (pa_cons pe_int pa_nil))) pa_nil)) (blkOk_by (own := [("_law_k", 6)]) (N := NWriting) (sc := defScope sWriting) (by decide +kernel)) (fun _ _ _ _ _ => (pg_name (i := 6) scWriting.nd rfl (Or.inl rfl))) (fun _ _ _ _ _ => pts_nil) (fun _ _ _ _ _ => (pe_cl CP hr (by decide) rfl (pa_cons (pv 0) (pa_cons (pe_cl0 CS hr (by decide) rfl) pa_nil))))))) pa_nil))))))
pss_nil)
(pss_cons (ps_if (pt_cmpR op_eq (pv 1) pe_int (nomark _))
(pss_cons (ps_set (i := 4) scWriting.nd rfl (Or.inl rfl) (pe_cl CP hr (by decide) rfl (pa_cons (pv 0) (pa_cons (pe_lst (pa_cons pe_int (pa_cons pe_int (pa_cons pe_int (pa_cons pe_int (pa_cons pe_int (pa_cons pe_int (pa_cons pe_int (pa_cons pe_int pa_nil))))))))) pa_nil))))
(pss_cons (ps_set (i := 5) scWriting.nd rfl (Or.inr rfl) pe_int)
(pss_cons (ps_for PassesOwn.never rfl (pi_range1 rfl (by exact T.range) (pa_cons (pv 4) pa_nil)) (pg_name (i := 6) scWriting.nd rfl (Or.inl rfl))
(pss_one (ps_set (i := 5) scWriting.nd rfl (Or.inr rfl) (pe_op op_mulW (pv 5) pe_int))))
(pss_one (ps_ret (pe_tup (pa_cons pe_str (pa_cons (pe_lc (own := [("_law_k", 6)]) (g := gName 6) (tt := tYes) (by rfl) scWriting.nd (pi_range1 rfl (by exact T.range) (pa_cons (pe_cl CD hr (by decide) rfl (pa_cons (pv 0) (pa_cons pe_int pa_nil))) pa_nil)) (blkOk_by (own := [("_law_k", 6)]) (N := NWriting) (sc := defScope sWriting) (by decide +kernel)) (fun _ _ _ _ _ => (pg_name (i := 6) scWriting.nd rfl (Or.inl rfl))) (fun _ _ _ _ _ => pts_nil) (fun _ _ _ _ _ => (pe_cl CD hr (by decide) rfl (pa_cons (pv 0) (pa_cons (pv 5) pa_nil))))) (pa_cons (pv 4) pa_nil)))))))))
pss_nil)
(pss_one (ps_ret (pe_tup (pa_cons pe_str (pa_cons (pe_lc (own := [("_law_k", 6)]) (g := gName 6) (tt := tYes) (by rfl) scWriting.nd (pi_range1 rfl (by exact T.range) (pa_cons (pe_cl CD hr (by decide) rfl (pa_cons (pv 0) (pa_cons pe_int pa_nil))) pa_nil)) (blkOk_by (own := [("_law_k", 6)]) (N := NWriting) (sc := defScope sWriting) (by decide +kernel)) (fun _ _ _ _ _ => (pg_name (i := 6) scWriting.nd rfl (Or.inl rfl))) (fun _ _ _ _ _ => pts_nil) (fun _ _ _ _ _ => (pe_cl CD hr (by decide) rfl (pa_cons (pv 0) (pa_cons pe_int pa_nil))))) pa_nil)))))))), ?_⟩
    refine ⟨_, rfl, p, c, m, _, rfl, HP, by omega, by decide, by decide, fun v1 o1 a1 b1 HP1 => ?_⟩
    have B1 := But.up p H o1
    have N1 := HP1.dict
    generalize upd H p o1 = H1 at *
    refine ⟨_, rfl, _, _, rfl, rfl, _, rfl, ?_⟩
    refine ite2 (fun _ => ?_) (fun _ => ?_)
    · -- a whole number
      refine ⟨_, rfl, _, _, rfl, rfl, ⟨by decide, by decide, by decide⟩, by show 7 ≤ sizeLine; decide, fun q hq => ?_⟩
      have hpq : p ≠ q := ne_of_none HP1.dict.choose_spec hq
      have hcq : c ≠ q := ne_of_none HP1.cells.choose_spec hq
      refine ⟨p, c, _, _, _, rfl, HP1.put hpq hcq, .lst (.inl (.inl upd_same)), by omega, (by show 0 < 7; decide), (by show 7 < 1073741824; decide), fun i g o2 hg HP2 => ?_⟩
      obtain ⟨g, rfl, hgl⟩ := greats hg
      have B2 : But p H (upd (upd H1 q (.lst [V.int 4, V.int 127, V.int 128, V.int 129, V.int 16383, V.int 16384, V.int (10 ^ Int.toNat 30)])) p o2) := (B1.put (B1.free N1.choose_spec hq)).trans (But.up _ _ _)
      generalize upd (upd H1 q (.lst [V.int 4, V.int 127, V.int 128, V.int 129, V.int 16383, V.int 16384, V.int (10 ^ Int.toNat 30)])) p o2 = H2 at *
      refine ⟨_, rfl, p, c, _, _, rfl, HP2, by omega, by decide, by decide, fun v3 o3 a3 b3 HP3 => ⟨rfl, _, rfl, ?_⟩⟩
      have B3 := B2.trans (But.up p H2 o3)
      generalize upd H2 p o3 = H3 at *
      have fin : ∀ (n : Nat) (H4 : Hp), n ≤ 10 ^ 30 → But p H H4 → PenAt H4 p c (m + 10) → 2 ≤ sizeLine ∧ ∀ t, H4 t = none → Q (.ref t) (upd H4 t (.tup [.str "whole", nI n])) := by
        intro n H4 hn B4 HP4
        refine ⟨by decide, fun t ht => ?_⟩
        have f := B4.free HP4.dict.choose_spec ht
        refine k t (.whole n) _ f (show n < 2 ^ 200 from Nat.lt_of_le_of_lt hn (by decide)) upd_same (B4.put f) ((HP4.mono (by omega)).put (ne_of_none HP4.dict.choose_spec ht) (ne_of_none HP4.cells.choose_spec ht))
      refine ite2 (fun _ => ?_) (fun _ => ?_)
      · have hlg : ((1 : Int) + (g : Int)).natAbs.log2 < 9000 := by
          have h1 : ((1 : Int) + (g : Int)).natAbs.log2 < 200 := PySem.Flt.log2_lt_of (by decide) (by
            have : g < 2 ^ 199 := Nat.lt_of_le_of_lt hgl (by decide)
            have e : (2 : Nat) ^ 200 = 2 * 2 ^ 199 := by decide
            omega)
          omega
        refine ⟨_, rfl, _, rfl, _, _, rfl, rfl, p, c, _, _, rfl, HP3, by omega, by omega, hlg, fun v4 o4 a4 b4 HP4 => ?_⟩
        have ev : V.int v4 = nI v4.toNat := congrArg V.int (by omega)
        rw [ev]
        exact fin v4.toNat _ (by omega) (B3.trans (But.up _ _ _)) (HP4.mono (by omega))
      · exact ⟨_, rfl, fin g _ hgl B3 (HP3.mono (by omega))⟩
    refine ⟨_, rfl, rfl, _, rfl, ?_⟩
    refine ite2 (fun _ => ?_) (fun _ => ?_)
    · -- a text
      refine ⟨_, rfl, rfl, p, c, _, _, _, rfl, HP1, SG_Some, by omega, SG_lens.1, SG_lens.2, fun i g o2 hg HP2 => ?_⟩
      obtain ⟨hi95, rfl⟩ := sg_pick hg
      have B2 := B1.trans (But.up p H1 o2)
      generalize upd H1 p o2 = H2 at *
      refine ⟨_, rfl, p, c, _, _, rfl, HP2, by omega, by decide, by decide, fun v3 o3 a3 b3 HP3 => ?_⟩
      have B3 := B2.trans (But.up p H2 o3)
      generalize upd H2 p o3 = H3 at *
      refine ⟨_, _, rfl, rfl, _, rfl, p, c, _, _, rfl, HP3, by omega, by decide, by decide, fun v4 o4 a4 b4 HP4 => ⟨rfl, .inr ⟨_, rfl, _, _, rfl, rfl, .inl ⟨by omega, by omega⟩, ?_⟩⟩⟩
      have B4 := B3.trans (But.up p H3 o4)
      generalize upd H3 p o4 = H4 at *
      generalize decide (V.int v4 = V.int 0) = bb
      obtain ⟨nn, hnn, hnl⟩ : ∃ nn : Nat, V.int ((120 + v3) * (if bb = true then 1 else 0)) = nI nn ∧ nn ≤ 140 := by
        refine ⟨((120 + v3) * (if bb = true then 1 else 0)).toNat, congrArg V.int ?_, ?_⟩ <;> cases bb <;> simp <;> omega
      refine ⟨sgn i, nn, rfl, hnn, by omega, ?_⟩
      refine ⟨_, rfl, ⟨_, rfl⟩, ?_⟩
      refine ⟨_, rfl, p, c, _, _, rfl, HP4, by omega, by decide, by decide, fun v5 o5 a5 b5 HP5 => ⟨v5, rfl, by omega, by omega, fun D hD => ?_⟩⟩
      have B5 := B4.trans (But.up p H4 o5)
      generalize upd H4 p o5 = H5 at *
      have hpD : p ≠ D := ne_of_none HP5.dict.choose_spec hD
      have hcD : c ≠ D := ne_of_none HP5.cells.choose_spec hD
      have fD : H D = none := B5.free HP5.dict.choose_spec hD
      refine lc_range (lo := 0) (n := v5.toNat) (fun j G => ∃ t : List Nat, G D = some (.lst (t.map sg1)) ∧ t.length = j ∧ (∀ i ∈ t, i < 95) ∧ PenAt G p c (m + 10 + j) ∧ But p H G)
        ⟨[], upd_same, rfl, (fun n h => nomatch h), (HP5.mono (by omega)).put hpD hcD, B5.put fD⟩ ?_ ?_
      · rintro j G hj ⟨t, hD2, hl, hb, HP6, B6⟩
        refine ⟨rfl, ?_⟩
        refine ⟨_, rfl, rfl, p, c, _, _, _, rfl, HP6, SG_Some, by omega, SG_lens.1, SG_lens.2, fun i' g o6 hg HP7 => ?_⟩
        obtain ⟨hi', rfl⟩ := sg_pick hg
        have hD3 := HP6.lst (o := o6) hD2
        refine ⟨_, hD3, ?_, t ++ [i'], ?_, ?_, ?_, (HP7.mono (by omega)).put hpD hcD, (B6.trans (But.up _ _ _)).put fD⟩
        · rw [List.length_map]
          exact small1000 (by omega)
        · rw [upd_same, List.map_append]
          rfl
        · rw [List.length_append, hl]
          rfl
        · intro n hn
          rcases List.mem_append.mp hn with h | h
          · exact hb n h
          · rw [List.mem_singleton.mp h]
            exact hi'
      · rintro G ⟨t, hD2, hl, hb, HP6, B6⟩
        have eD : t.map sg1 = (t.map fun i => (⟨#[sgn i]⟩ : Str)).map V.str := by rw [List.map_map]; rfl
        have ln1 : ((List.replicate nn (sgn i)).toArray).size = nn := by rw [List.size_toArray, List.length_replicate]
        refine ⟨("" : Str), D, t.map fun i => (⟨#[sgn i]⟩ : Str), rfl, rfl, .inl (.inl (.inl (by rw [hD2, eD]))), ?_, ?_⟩
        · rw [ones_sum]
          have e0 : ("" : Str).length = 0 := rfl
          rw [e0, Nat.mul_zero]
          omega
        rw [join_signs]
        refine ⟨_, _, rfl, rfl, ?_, by show 2 ≤ sizeLine; decide, fun tt ht => ?_⟩
        · show ((List.replicate nn (sgn i)).toArray).size + (txt t).length ≤ sizeLine
          rw [ln1, txt_len, sizeLine_eq]
          omega
        · rw [rep_txt]
          have f := B6.free HP6.dict.choose_spec ht
          refine k tt (.signs (List.replicate nn i ++ t)) _ f ⟨fun n hn => ?_, ?_⟩ upd_same (B6.put f) ((HP6.mono (by omega)).put (ne_of_none HP6.dict.choose_spec ht) (ne_of_none HP6.cells.choose_spec ht))
          · rcases List.mem_append.mp hn with h | h
            · rw [(List.mem_replicate.mp h).2]
              exact hi95
            · exact hb n h
          · rw [List.length_append, List.length_replicate]
            omega
    refine ⟨_, rfl, rfl, _, rfl, ?_⟩
    refine ite2 (fun _ => ?_) (fun _ => ?_)
    · -- bits
      refine ⟨_, rfl, by show 8 ≤ sizeLine; decide, fun q hq => ?_⟩
      have hpq : p ≠ q := ne_of_none HP1.dict.choose_spec hq
      have hcq : c ≠ q := ne_of_none HP1.cells.choose_spec hq
      refine ⟨p, c, _, _, _, rfl, HP1.put hpq hcq, .lst (.inl (.inl upd_same)), by omega, (by show 0 < 8; decide), (by show 8 < 1073741824; decide), fun i g o2 hg HP2 => ?_⟩
      obtain ⟨w', rfl, hw⟩ := widths hg
      have B2 : But p H (upd (upd H1 q (.lst [V.int 0, V.int 1, V.int 3, V.int 7, V.int 8, V.int 9, V.int 13, V.int 64])) p o2) := (B1.put (B1.free N1.choose_spec hq)).trans (But.up _ _ _)
      generalize upd (upd H1 q (.lst [V.int 0, V.int 1, V.int 3, V.int 7, V.int 8, V.int 9, V.int 13, V.int 64])) p o2 = H2 at *
      refine ⟨_, rfl, _, rfl, by omega, by omega, for_range (fun j σ G => G = H2 ∧ ∃ v : Option V, σ = [some (.ref p), some (.int v1), none, none, some (nI w'), some (nI (2 ^ j)), v])
        ⟨rfl, none, rfl⟩ ?_ ?_⟩
      · rintro j σ G hj ⟨rfl, v, rfl⟩
        have hl : CMulW ((2 ^ j : Nat) : Int) 2 := by
          have h1 : ((2 ^ j : Nat) : Int).natAbs.log2 < 70 := PySem.Flt.log2_lt_of (by decide) (by
            rw [Int.natAbs_natCast]
            exact Nat.pow_lt_pow_right (by decide) (by omega))
          have h2 : (2 : Int).natAbs.log2 = 1 := by decide
          unfold CMulW
          rw [h2]
          omega
        refine ⟨_, rfl, _, _, rfl, rfl, hl, ?_⟩
        refine ⟨rfl, some (.int (0 + (j : Int))), ?_⟩
        show [_, _, _, _, _, some (V.int (((2 ^ j : Nat) : Int) * 2)), _] = _
        have e : ((2 ^ j : Nat) : Int) * 2 = ((2 ^ (j + 1) : Nat) : Int) := by rw [Nat.pow_succ]; omega
        rw [e]
      · rintro σ G ⟨rfl, v, rfl⟩
        have ew : (w' : Int).toNat = w' := by omega
        refine ⟨_, rfl, p, c, _, _, rfl, HP2, by omega, by decide, by decide, fun v5 o5 a5 b5 HP5 => ⟨v5, rfl, by omega, by omega, fun D hD => ?_⟩⟩
        have B5 := B2.trans (But.up p G o5)
        generalize upd G p o5 = H5 at *
        have hpD : p ≠ D := ne_of_none HP5.dict.choose_spec hD
        have hcD : c ≠ D := ne_of_none HP5.cells.choose_spec hD
        have fD : H D = none := B5.free HP5.dict.choose_spec hD
        have hpw : 0 < 2 ^ w' := Nat.pow_pos (by decide)
        refine lc_range (lo := 0) (n := v5.toNat) (fun j G => ∃ ns : List Nat, G D = some (.lst (ns.map nI)) ∧ ns.length = j ∧ (∀ n ∈ ns, n < 2 ^ w') ∧ PenAt G p c (m + 10 + j) ∧ But p H G)
          ⟨[], upd_same, rfl, (fun n h => nomatch h), (HP5.mono (by omega)).put hpD hcD, B5.put fD⟩ ?_ ?_
        · rintro j G3 hj ⟨ns, hD2, hl, hb, HP6, B6⟩
          refine ⟨rfl, ?_⟩
          rw [ew]
          have hlg : ((2 ^ w' : Nat) : Int).natAbs.log2 < 9000 := by
            have h1 : ((2 ^ w' : Nat) : Int).natAbs.log2 < 70 := PySem.Flt.log2_lt_of (by decide) (by
              rw [Int.natAbs_natCast]
              exact Nat.pow_lt_pow_right (by decide) (by omega))
            omega
          refine ⟨_, rfl, _, rfl, p, c, _, _, rfl, HP6, by omega, by omega, hlg, fun v7 o7 a7 b7 HP7 => ?_⟩
          have hD3 := HP6.lst (o := o7) hD2
          have ev : V.int v7 = nI v7.toNat := congrArg V.int (by omega)
          refine ⟨_, hD3, ?_, ns ++ [v7.toNat], ?_, ?_, ?_, (HP7.mono (by omega)).put hpD hcD, (B6.trans (But.up _ _ _)).put fD⟩
          · rw [List.length_map]
            exact small1000 (by omega)
          · rw [upd_same, List.map_append, ev]
            rfl
          · rw [List.length_append, hl]
            rfl
          · intro n hn
            rcases List.mem_append.mp hn with h | h
            · exact hb n h
            · rw [List.mem_singleton.mp h]
              omega
        · rintro G3 ⟨ns, hD2, hl, hb, HP6, B6⟩
          refine ⟨_, rfl, by show 3 ≤ sizeLine; decide, fun tt ht => ?_⟩
          have f := B6.free HP6.dict.choose_spec ht
          exact k tt (.bits ns w') _ f ⟨hb, hw, by omega⟩ ⟨D, fD, upd_same, by rw [upd_ne (ne_of_none hD2 ht)]; exact hD2⟩ (B6.put f) ((HP6.mono (by omega)).put (ne_of_none HP6.dict.choose_spec ht) (ne_of_none HP6.cells.choose_spec ht))
    · -- raw bytes
      refine ⟨_, rfl, p, c, _, _, rfl, HP1, by omega, by decide, by decide, fun v5 o5 a5 b5 HP5 => ⟨v5, rfl, by omega, by omega, fun D hD => ?_⟩⟩
      have B5 := B1.trans (But.up p H1 o5)
      generalize upd H1 p o5 = H5 at *
      have hpD : p ≠ D := ne_of_none HP5.dict.choose_spec hD
      have hcD : c ≠ D := ne_of_none HP5.cells.choose_spec hD
      have fD : H D = none := B5.free HP5.dict.choose_spec hD
      refine lc_range (lo := 0) (n := v5.toNat) (fun j G => ∃ ns : List Nat, G D = some (.lst (ns.map nI)) ∧ ns.length = j ∧ (∀ n ∈ ns, n < 256) ∧ PenAt G p c (m + 10 + j) ∧ But p H G)
        ⟨[], upd_same, rfl, (fun n h => nomatch h), (HP5.mono (by omega)).put hpD hcD, B5.put fD⟩ ?_ ?_
      · rintro j G3 hj ⟨ns, hD2, hl, hb, HP6, B6⟩
        refine ⟨rfl, ?_⟩
        refine ⟨_, rfl, p, c, _, _, rfl, HP6, by omega, by decide, by decide, fun v7 o7 a7 b7 HP7 => ?_⟩
        have hD3 := HP6.lst (o := o7) hD2
        have ev : V.int v7 = nI v7.toNat := congrArg V.int (by omega)
        refine ⟨_, hD3, ?_, ns ++ [v7.toNat], ?_, ?_, ?_, (HP7.mono (by omega)).put hpD hcD, (B6.trans (But.up _ _ _)).put fD⟩
        · rw [List.length_map]
          exact small1000 (by omega)
        · rw [upd_same, List.map_append, ev]
          rfl
        · rw [List.length_append, hl]
          rfl
        · intro n hn
          rcases List.mem_append.mp hn with h | h
          · exact hb n h
          · rw [List.mem_singleton.mp h]
            omega
      · rintro G3 ⟨ns, hD2, hl, hb, HP6, B6⟩
        refine ⟨by show 2 ≤ sizeLine; decide, fun tt ht => ?_⟩
        have f := B6.free HP6.dict.choose_spec ht
        exact k tt (.raw ns) _ f ⟨hb, by omega⟩ ⟨D, fD, upd_same, by rw [upd_ne (ne_of_none hD2 ht)]; exact hD2⟩ (B6.put f) ((HP6.mono (by omega)).put (ne_of_none HP6.dict.choose_spec ht) (ne_of_none HP6.cells.choose_spec ht))
end
end Wq

set_option Elab.async false
set_option linter.all false
set_option maxRecDepth 100000
set_option maxHeartbeats 2000000
namespace Wq
open PySem PySem.Spec PyProof.Rows L2
abbrev b2 (b : Bool) : V := .int (if b = true then 1 else 0)
/-- the list of n things that f tells -/
def tab (n : Nat) (f : Nat → V) : List V := (List.range n).map f
theorem tab_len (n : Nat) (f : Nat → V) : (tab n f).length = n := by simp [tab]
theorem tab_at {n i : Nat} {f : Nat → V} (h : i < n) : (tab n f)[i]? = some (f i) := by simp [tab, h]
theorem tab_ext {n : Nat} {f g : Nat → V} (h : ∀ t, t < n → f t = g t) : tab n f = tab n g := by
  apply List.map_congr_left
  intro t ht
  exact h t (List.mem_range.mp ht)
theorem tab_set (n i : Nat) (f : Nat → V) (v : V) : (tab n f).set i v = tab n (fun t => if t = i then v else f t) := by
  apply List.ext_getElem?
  intro j
  rw [List.getElem?_set]
  by_cases hj : j < n
  · by_cases h : i = j
    · subst h
      rw [if_pos rfl, tab_len, if_pos hj, tab_at hj, if_pos rfl]
    · rw [if_neg h, tab_at hj, tab_at hj, if_neg (fun z => h z.symm)]
  · have e : ∀ g, (tab n g)[j]? = none := fun g => List.getElem?_eq_none (by rw [tab_len]; omega)
    rw [e, e]
    by_cases h : i = j
    · rw [if_pos h, tab_len, if_neg (by omega)]
    · rw [if_neg h]
theorem tab_snoc (n : Nat) (f : Nat → V) : tab n f ++ [f n] = tab (n + 1) f := by
  simp [tab, List.range_succ]
theorem tab_app (n m : Nat) (f g : Nat → V) : tab n f ++ tab m g = tab (n + m) (fun t => if t < n then f t else g (t - n)) := by
  apply List.ext_getElem?
  intro j
  by_cases h : j < n
  · rw [List.getElem?_append_left (by rw [tab_len]; exact h), tab_at h, tab_at (by omega), if_pos h]
  · rw [List.getElem?_append_right (by rw [tab_len]; omega), tab_len]
    by_cases h2 : j < n + m
    · rw [tab_at (by omega), tab_at h2, if_neg h]
    · rw [List.getElem?_eq_none (by rw [tab_len]; omega), List.getElem?_eq_none (by rw [tab_len]; omega)]
theorem tab_rev (n : Nat) (f : Nat → V) : (tab n f).reverse = tab n (fun t => f (n - 1 - t)) := by
  apply List.ext_getElem?
  intro j
  by_cases h : j < n
  · rw [List.getElem?_reverse (by rw [tab_len]; exact h), tab_len, tab_at (by omega), tab_at h]
  · rw [List.getElem?_eq_none (by simp [tab_len]; omega), List.getElem?_eq_none (by rw [tab_len]; omega)]
theorem atI_tab {n i : Nat} {f : Nat → V} (h : i < n) : atI (tab n f) (0 + (i : Int)) = some (f i) := by
  rw [Int.zero_add]
  exact atI_nat (tab_at h)
theorem ixN_nat {n i : Nat} (h : i < n) : ixN n (i : Int) = some i := by
  unfold ixN
  rw [if_pos (by omega), if_pos (by omega), Int.toNat_natCast]
end Wq

set_option Elab.async false
set_option linter.all false
set_option maxRecDepth 100000
set_option maxHeartbeats 2000000
set_option exponentiation.threshold 5000
namespace Wq
open PySem PySem.Spec PyProof.Rows L2
open Rb (wh le un val Bp Wr)
abbrev sWholeRow : Stmt := top 14
abbrev sRow : Stmt := top 15
theorem scWholeRow : FnScope ["_law_number", "_law_found"] ["_law_number"] (defScope sWholeRow) := ⟨rfl, rfl, rfl, by decide +kernel, rfl, by decide +kernel, by decide +kernel⟩
abbrev NRow : List Str := ["_law_writing_here", "_law_bits", "_law_number", "_law_left", "_law_k", "_law_found", "_law_weight", "_law_byte", "_law_bit", "_law_sign"]
theorem scRow : FnScope NRow ["_law_writing_here"] (defScope sRow) := ⟨rfl, rfl, rfl, by decide +kernel, rfl, by decide +kernel, by decide +kernel⟩
def spWholeRow : Sp := fun vs H Q _ => ∃ n : Nat, vs = [nI n] ∧ n < 2 ^ 4000 ∧ ∀ p H', H p = none → Same H H' → H' p = some (.lst ((wh n).map nI)) → Q (.ref p) H'
def spRow : Sp := fun vs H Q _ => ∃ (t : Addr) (x : Wr), vs = [.ref t] ∧ gd x ∧ Wrt H t x ∧ ∀ p H', H p = none → Same H H' → H' p = some (.lst ((Rb.row x).map nI)) → Q (.ref p) H'
theorem rgc8 (M : Nat) (h : M ≤ 1000000) : RgC 0 (M : Int) 8 ((M + 7) / 8) := by
  have e : Builtin.Range.rangeSize 0 (M : Int) 8 = (((M + 7) / 8 : Nat) : Int) := by
    unfold Builtin.Range.rangeSize
    split <;> split <;> omega
  refine ⟨by decide, by decide, ?_, e⟩
  unfold Builtin.Range.small
  rw [e]
  unfold Builtin.Range.rangeFitsLong
  simp only [Bool.and_eq_true, Bool.or_eq_true, decide_eq_true_eq, beq_iff_eq]
  refine ⟨⟨⟨⟨?_, ?_⟩, ?_⟩, ?_⟩, .inr ?_⟩
  all_goals first | omega | (rw [if_pos (by decide)]; simp; omega) | skip
theorem V_bit (V j t : Nat) : (V / 2 ^ (8 * j)) % 2 ^ (t + 1) = (V / 2 ^ (8 * j)) % 2 ^ t + (if V.testBit (8 * j + t) = true then 1 else 0) * 2 ^ t := by
  have e : V.testBit (8 * j + t) = (V / 2 ^ (8 * j)).testBit t := by rw [Nat.testBit_div_two_pow, Nat.add_comm]
  rw [e, Nat.testBit_eq_decide_div_mod_eq]
  generalize V / 2 ^ (8 * j) = x
  rw [Nat.pow_succ, Nat.mod_mul]
  simp only [decide_eq_true_eq]
  have h2 : x / 2 ^ t % 2 < 2 := Nat.mod_lt _ (by decide)
  by_cases h : x / 2 ^ t % 2 = 1
  · rw [if_pos h, h, Nat.one_mul, Nat.mul_one]
  · have h0 : x / 2 ^ t % 2 = 0 := by omega
    rw [if_neg h, h0, Nat.zero_mul, Nat.mul_zero]
theorem tab_cut8 {M j : Nat} {f : Nat → V} (hj : 8 * j < M) : cutV (tab M f) (some (0 + (j : Int) * 8)) (some ((0 + (j : Int) * 8) + 8)) = tab (min 8 (M - 8 * j)) (fun t => f (8 * j + t)) := by
  have e1 : HT.sIx (tab M f).length 0 (some (0 + (j : Int) * 8)) = 8 * j := by
    unfold HT.sIx
    rw [tab_len]
    show (if (0 + (j : Int) * 8) < 0 then _ else _) = _
    rw [if_neg (by omega)]
    omega
  have e2 : HT.sIx (tab M f).length (tab M f).length (some ((0 + (j : Int) * 8) + 8)) = min (8 * j + 8) M := by
    unfold HT.sIx
    rw [tab_len]
    show (if ((0 + (j : Int) * 8) + 8) < 0 then _ else _) = _
    rw [if_neg (by omega)]
    omega
  unfold cutV
  rw [e1, e2]
  apply List.ext_getElem?
  intro t
  rw [List.getElem?_take, List.getElem?_drop]
  by_cases ht : t < min 8 (M - 8 * j)
  · rw [if_pos (by omega), tab_at (by omega), tab_at ht]
  · rw [if_neg (by omega), List.getElem?_eq_none (by rw [tab_len]; omega)]
section
variable {P : Program} {w : World} {K : PySem.W.Frag} {mg : Str → Option Value} {base : Heap}
theorem ok_wholeRow (D : DefAt K mg "_law_whole_row" sWholeRow) (T : Txt K mg) : Cl P w K mg base 1 "_law_whole_row" spWholeRow := by
  refine cl_of D scWholeRow (fun vs H Q E h => ?_) (fun _ _ _ _ _ _ us hl => match us, hl with | [_], _ => rfl) (fun f cdv A outer s H vs Q E hr h => ?_)
  · obtain ⟨n, rfl, _⟩ := h
    rfl
  · obtain ⟨n, rfl, hn, k⟩ := h
    refine ⟨_, pss_cons (ps_set (i := 1) scWholeRow.nd rfl (Or.inl rfl) (pe_lst pa_nil))
(pss_cons (ps_while PassesOwn.never (pt_cmpR op_gt (pv 0) pe_int (nomark _))
(pss_cons (ps_expr (pe_bm PySem.F.plainAttrs_list PySem.F.slot_list_append PySem.F.type_list_append mt_append (pv 1) (pa_cons (pe_op op_add pe_int (pe_op op_mod (pe_callTy call_int1 (by rfl) (by exact T.int) PyProof.Rows.boot_int (pa_cons (pv 0) pa_nil)) pe_int)) pa_nil)))
(pss_one (ps_set (i := 0) scWholeRow.nd rfl (Or.inl rfl) (pe_op op_fdiv (pe_callTy call_int1 (by rfl) (by exact T.int) PyProof.Rows.boot_int (pa_cons (pv 0) pa_nil)) pe_int)))))
(pss_one (ps_ret (pe_op op_cat (pv 1) (pe_lst (pa_cons (pv 0) pa_nil)))))), ?_⟩
    have hwl : (wh n).length ≤ 572 := wh_len n 572 (Nat.lt_of_lt_of_le hn (pow128 572 4000 (by decide))) (by decide)
    refine ⟨Nat.zero_le _, fun l hl => ?_⟩
    refine while_by (fun σ H' => ∃ (m : Nat) (r : List Nat), σ = [some (nI m), some (.ref l)] ∧ Same H H' ∧ H' l = some (.lst (r.map nI)) ∧ r ++ wh m = wh n) (fun σ H' => match σ with | [some (.int y), _] => y.toNat | _ => 0)
      ⟨n, [], rfl, Same.new hl, upd_same, rfl⟩ ?_ ?_
    · rintro σ H' ⟨m, r, rfl, sm, hl', e⟩
      have hlen : r.length ≤ 572 := by
        have := congrArg List.length e
        rw [List.length_append] at this
        omega
      have hsz : (r.map nI).length < sizeLine := by rw [List.length_map, sizeLine_eq]; omega
      refine ⟨_, rfl, _, _, rfl, rfl, _, rfl, ?_⟩
      refine ite2 (fun hc => ?_) (fun hc => ?_)
      · have hc : m > 127 := by have := of_decide_eq_true hc; omega
        refine ⟨_, rfl, .inl ⟨rfl, _, .inl (.inl hl')⟩, _, rfl, .inl ⟨_, rfl, _, _, rfl, rfl, (by show (0 : Int) < 128; decide), _, _, rfl, rfl, l, _, _, rfl, rfl, hl', hsz, ?_⟩⟩
        refine ⟨_, rfl, .inl ⟨_, rfl, _, _, rfl, rfl, ⟨by decide, by decide⟩, ?_⟩⟩
        refine ⟨⟨m / 128, r ++ [128 + m % 128], rfl, Same.put sm hl, ?_, ?_⟩, ?_⟩
        · rw [upd_same, List.map_append]
          have e2 : V.int (128 + (m : Int) % 128) = nI (128 + m % 128) := congrArg V.int (by omega)
          show some (HO.lst (r.map nI ++ [V.int (128 + (m : Int) % 128)])) = _
          rw [e2]
          rfl
        · rw [List.append_assoc, ← e, Rb.wh_big hc]
          rfl
        · show ((m : Int) / 128).toNat < m
          omega
      · have hc : ¬ m > 127 := fun z => hc (decide_eq_true (by omega))
        refine ⟨_, rfl, _, rfl, by show 1 ≤ sizeLine; decide, fun q hq => ?_⟩
        have s1 := Same.new (o := .lst [nI m]) hq
        refine ⟨l, q, _, _, rfl, rfl, s1 _ _ hl', upd_same, by show _ + 1 ≤ sizeLine; omega, fun p hp => ?_⟩
        have s2 := sm.trans s1
        refine k p _ (s2.free hp) (s2.trans (Same.new hp)) ?_
        rw [upd_same, ← e, Rb.wh_small hc, List.map_append]
        rfl
    · intro σ H' Q' Q'' hq h
      obtain ⟨v, h1, h⟩ := h
      obtain ⟨i, j, e1, e2, k', e3, h⟩ := h
      exact ⟨v, h1, i, j, e1, e2, k', e3, hq _ _ h⟩
theorem ok_row (D : DefAt K mg "_law_row" sRow) (T : Txt K mg) (CW : Cl P w K mg base 1 "_law_whole_row" spWholeRow) (CS : Cl P w K mg base 1 "all_signs" spSigns) : Cl P w K mg base 2 "_law_row" spRow := by
  refine cl_of D scRow (fun vs H Q E h => ?_) (fun _ _ _ _ _ _ us hl => match us, hl with | [_], _ => rfl) (fun f cdv A outer s H vs Q E hr h => ?_)
  · obtain ⟨t, x, rfl, _⟩ := h
    rfl
  · obtain ⟨t, x, rfl, hg, hw, k⟩ := h
    refine ⟨_, pss_cons (ps_if (pt_cmpR op_eq (pe_ix ix_tup (pv 0) pe_int (fun _ _ => rfl)) pe_str (nomark _))
(pss_one (ps_ret (pe_cl CW hr (by decide) rfl (pa_cons (pe_ix ix_tup (pv 0) pe_int (fun _ _ => rfl)) pa_nil))))
pss_nil)
(pss_cons (ps_if (pt_cmpR op_eq (pe_ix ix_tup (pv 0) pe_int (fun _ _ => rfl)) pe_str (nomark _))
(pss_one (ps_ret (pe_op op_cat (pe_cl CW hr (by decide) rfl (pa_cons (pe_callB call_len_str (by rfl) (by exact T.len) PySem.boot_len (pa_cons (pe_ix ix_tup (pv 0) pe_int (fun _ _ => rfl)) pa_nil)) pa_nil)) (pe_lc (own := [("_law_sign", 9)]) (g := gName 9) (tt := tYes) (te := tBMS K "str" (rIndexX fun _ _ _ _ => False) (tCall spSigns [] E0 tNil) (tCons (tVar 9) tNil)) (by rfl) scRow.nd (pi_str (pe_ix ix_tup (pv 0) pe_int (fun _ _ => rfl))) (blkOk_by (own := [("_law_sign", 9)]) (N := NRow) (sc := defScope sRow) (by decide +kernel)) (fun _ _ _ _ _ => (pg_name (i := 9) scRow.nd rfl (Or.inl rfl))) (fun _ _ _ _ _ => pts_nil) (fun _ _ _ _ _ => (pe_bmS PySem.F.plainAttrs_str PySem.F.slot_str_index PySem.F.type_str_index (mt_indexX rfl takes0) (pe_cl0 CS hr (by decide) rfl) (pa_cons (pv 9) pa_nil)))))))
pss_nil)
(pss_cons (ps_if (pt_cmpR op_eq (pe_ix ix_tup (pv 0) pe_int (fun _ _ => rfl)) pe_str (nomark _))
(pss_one (ps_ret (pe_callTy call_list_of (by rfl) (by exact T.list) (by decide +kernel) (pa_cons (pe_ix ix_tup (pv 0) pe_int (fun _ _ => rfl)) pa_nil))))
pss_nil)
(pss_cons (ps_set (i := 1) scRow.nd rfl (Or.inl rfl) (pe_lst pa_nil))
(C8.pss_cut (ps_for PassesOwn.never rfl (pi_list (pe_ix ix_tup (pv 0) pe_int (fun _ _ => rfl))) (pg_name (i := 2) scRow.nd rfl (Or.inl rfl))
(pss_cons (ps_set (i := 3) scRow.nd rfl (Or.inl rfl) (pv 2))
(pss_one (ps_for PassesOwn.never rfl (pi_range1 rfl (by exact T.range) (pa_cons (pe_ix ix_tup (pv 0) pe_int (fun _ _ => rfl)) pa_nil)) (pg_name (i := 4) scRow.nd rfl (Or.inl rfl))
(pss_cons (ps_expr (pe_bm PySem.F.plainAttrs_list PySem.F.slot_list_append PySem.F.type_list_append mt_append (pv 1) (pa_cons (pe_op op_mod (pe_callTy call_int1 (by rfl) (by exact T.int) PyProof.Rows.boot_int (pa_cons (pv 3) pa_nil)) pe_int) pa_nil)))
(pss_one (ps_set (i := 3) scRow.nd rfl (Or.inl rfl) (pe_op op_fdiv (pe_callTy call_int1 (by rfl) (by exact T.int) PyProof.Rows.boot_int (pa_cons (pv 3) pa_nil)) pe_int))))))))
(pss_cons (ps_set (i := 5) scRow.nd rfl (Or.inl rfl) (pe_lst pa_nil))
(pss_cons (ps_for PassesOwn.never rfl (pi_range3 rfl (by exact T.range) (pa_cons pe_int (pa_cons (pe_callB call_len_seq (by rfl) (by exact T.len) PySem.boot_len (pa_cons (pv 1) pa_nil)) (pa_cons pe_int pa_nil)))) (pg_name (i := 4) scRow.nd rfl (Or.inl rfl))
(pss_cons (ps_asg (pe_tup (pa_cons pe_int (pa_cons pe_int pa_nil))) (pg_tup (by rfl) (pgs_cons (pg_name (i := 6) scRow.nd rfl (Or.inl rfl)) (pgs_cons (pg_name (i := 7) scRow.nd rfl (Or.inl rfl)) pgs_nil))))
(C8.pss_cut (ps_for PassesOwn.never rfl (pi_list (pe_slice sl_list (pv 1) (po_some (pv 4)) (po_some (pe_op op_add (pv 4) pe_int)))) (pg_name (i := 8) scRow.nd rfl (Or.inl rfl))
(pss_one (ps_par (i := 7) (j := 6) (by rfl) scRow.nd rfl rfl (by decide) rfl rfl  (pa_cons (pe_op op_add (pv 7) (pe_op op_mul (pv 8) (pv 6))) (pa_cons (pe_op op_mul (pv 6) pe_int) pa_nil)) (by rfl))))
(pss_one (ps_expr (pe_bm PySem.F.plainAttrs_list PySem.F.slot_list_append PySem.F.type_list_append mt_append (pv 5) (pa_cons (pv 7) pa_nil)))))))
(pss_one (ps_ret (pv 5))))))))), ?_⟩
    cases x with
    | whole n =>
      have h0 : H t = some (.tup [.str "whole", nI n]) := hw
      have h1 : SqT K H t [.str "whole", nI n] := .inl (.inl h0)
      refine ⟨_, rfl, t, _, _, _, rfl, rfl, h1, (by rfl), rfl, _, rfl, ?_⟩
      refine (if_pos (by decide +kernel)).mpr ?_
      refine ⟨_, rfl, t, _, _, _, rfl, rfl, h1, (by rfl), n, rfl, ?_, fun p H' np sm hp => k p H' np sm hp⟩
      exact Nat.lt_of_lt_of_le (show n < 2 ^ 200 from hg) (Nat.pow_le_pow_right (by decide) (by decide))
    | signs z =>
      have h0 : H t = some (.tup [.str "signs", .str (txt z)]) := hw
      have h1 : SqT K H t [.str "signs", .str (txt z)] := .inl (.inl h0)
      obtain ⟨hz, hzl⟩ := hg
      refine ⟨_, rfl, t, _, _, _, rfl, rfl, h1, (by rfl), rfl, _, rfl, ?_⟩
      refine (if_neg (by decide +kernel)).mpr ?_
      refine ⟨_, rfl, t, _, _, _, rfl, rfl, h1, (by rfl), rfl, _, rfl, ?_⟩
      refine (if_pos (by decide +kernel)).mpr ?_
      refine ⟨_, rfl, t, _, _, _, rfl, rfl, h1, (by rfl), _, rfl, ?_, z.length, by rw [txt_len]; rfl, ?_, fun p1 H1 np1 sm1 hp1 => ?_⟩
      · rw [txt_len, sizeLine_eq]
        omega
      · exact Nat.lt_of_lt_of_le (show z.length < 2 ^ 11 by omega) (Nat.pow_le_pow_right (by decide) (by decide))
      have hwl : (wh z.length).length ≤ 2 := wh_len _ 2 (by show z.length < 16384; omega) (by decide)
      have h1' : SqT K H1 t [.str "signs", .str (txt z)] := .inl (.inl (sm1 _ _ h0))
      refine ⟨_, rfl, t, _, _, _, rfl, rfl, h1', (by rfl), txt z, rfl, fun D hD => ?_⟩
      have n1D : p1 ≠ D := ne_of_none hp1 hD
      refine lc_it walk_str (fun j G => Same H1 G ∧ G D = some (.lst ((z.take j).map nI))) ⟨Same.new hD, upd_same⟩ (fun _ _ _ _ => trivial) ?_ ?_
      · rintro j x G G2 hj ⟨sm, hD2⟩ ⟨rfl, c, hc, rfl⟩
        have hj : j < z.length := by rw [← txt_len]; exact hj
        obtain ⟨y, hy⟩ : ∃ y, z[j]? = some y := ⟨z[j], List.getElem?_eq_getElem hj⟩
        have hy95 : y < 95 := hz y (List.mem_of_getElem? hy)
        have ec : c = sgn y := by
          have : (z.map sgn).toArray[j]? = some c := hc
          rw [List.getElem?_toArray, List.getElem?_map, hy] at this
          exact (Option.some.inj this).symm
        refine ⟨rfl, ?_⟩
        refine ⟨rfl, rfl, _, rfl, SG, ⟨#[c]⟩, rfl, rfl, fun k hk => ?_, fun hn _ => ?_⟩
        · rw [ec, SG_index y hy95] at hk
          obtain rfl := Option.some.inj hk
          refine ⟨_, hD2, ?_, Same.put sm hD, ?_⟩
          · rw [List.length_map, List.length_take]
            exact small1000 (by omega)
          · rw [upd_same, List.take_add_one, hy, List.map_append]
            rfl
        · rw [ec, SG_index y hy95] at hn
          cases hn
      · rintro G ⟨sm, hD2⟩
        have e : (txt z).cps.size = z.length := txt_len z
        rw [e, List.take_length] at hD2
        refine ⟨p1, D, _, _, rfl, rfl, sm _ _ hp1, hD2, ?_, fun q hq => ?_⟩
        · rw [List.length_map, List.length_map, sizeLine_eq]
          omega
        have s2 := sm1.trans sm
        refine k q _ (s2.free hq) (s2.trans (Same.new hq)) ?_
        rw [upd_same, ← List.map_append]
        rfl
    | bits ns w' =>
      obtain ⟨a, h0, ha⟩ := hw
      have h1 : SqT K H t [.str "bits", .ref a, nI w'] := .inl (.inl h0)
      obtain ⟨hn, hw64, hnl⟩ := hg
      have hV : val w' ns < 2 ^ (w' * ns.length) := Rb.val_lt hn
      have hM : w' * ns.length ≤ 512 := Nat.le_trans (Nat.mul_le_mul hw64 hnl) (by decide)
      have hbit : ∀ {i n k : Nat}, ns[i]? = some n → k < w' → (val w' ns).testBit (w' * i + k) = n.testBit k := fun hi hk => Rb.val_bit hn hi hk
      refine ⟨_, rfl, t, _, _, _, rfl, rfl, h1, (by rfl), rfl, _, rfl, ?_⟩
      refine (if_neg (by decide +kernel)).mpr ?_
      refine ⟨_, rfl, t, _, _, _, rfl, rfl, h1, (by rfl), rfl, _, rfl, ?_⟩
      refine (if_neg (by decide +kernel)).mpr ?_
      refine ⟨_, rfl, t, _, _, _, rfl, rfl, h1, (by rfl), rfl, _, rfl, ?_⟩
      refine (if_neg (by decide +kernel)).mpr ?_
      refine ⟨Nat.zero_le _, fun l hl => ?_⟩
      have s0 := Same.new (o := .lst []) hl
      refine ⟨fun σ G => ∃ x2 x3 x4 : Option V, σ = [some (.ref t), some (.ref l), x2, x3, x4, none, none, none, none, none] ∧ Same H G ∧ G l = some (.lst (tab (w' * ns.length) fun t => b2 ((val w' ns).testBit t))), ?_, ?_⟩
      · refine ⟨_, rfl, t, _, _, _, rfl, rfl, .inl (.inl (s0 _ _ h0)), (by rfl), a, rfl, ⟨_, .inl (.inl (s0 _ _ ha))⟩, for_list (K := K) (a := a) (xs := ns.map nI) (fun i σ G => ∃ x2 x3 x4 : Option V, σ = [some (.ref t), some (.ref l), x2, x3, x4, none, none, none, none, none] ∧ Same H G ∧ G l = some (.lst (tab (w' * i) fun t => b2 ((val w' ns).testBit t))))
          ⟨none, none, none, rfl, s0, by rw [upd_same, Nat.mul_zero]; rfl⟩ (fun i σ G _ ⟨_, _, _, _, s, _⟩ => .inl (.inl (s _ _ ha))) ?_ ?_⟩
        · rintro i y σ G hi ⟨x2, x3, x4, rfl, sm, hl2⟩
          obtain ⟨n, hni, rfl⟩ := nats_at hi
          have hil := (List.getElem?_eq_some_iff.mp hni).1
          have hmi : w' * i + w' ≤ 512 := by
            have := Nat.mul_le_mul_left w' (show i + 1 ≤ ns.length from hil)
            rw [Nat.mul_succ] at this
            omega
          refine ⟨_, rfl, _, rfl, t, _, _, _, rfl, rfl, .inl (.inl (sm _ _ h0)), (by rfl), _, rfl, by omega, by omega, for_range (fun k σ G => ∃ x4 : Option V, σ = [some (.ref t), some (.ref l), some (nI n), some (nI (n >>> k)), x4, none, none, none, none, none] ∧ Same H G ∧ G l = some (.lst (tab (w' * i + k) fun t => b2 ((val w' ns).testBit t))))
            ⟨x4, rfl, sm, hl2⟩ ?_ ?_⟩
          · rintro k σ G2 hk ⟨x4, rfl, sm2, hl3⟩
            have hk : k < w' := by omega
            refine ⟨_, rfl, .inl ⟨rfl, _, .inl (.inl hl3)⟩, _, rfl, .inl ⟨_, rfl, _, _, rfl, rfl, (by show (0 : Int) < 2; decide), l, _, _, rfl, rfl, hl3, ?_, ?_⟩⟩
            · rw [tab_len]
              exact small1000 (by omega)
            refine ⟨_, rfl, .inl ⟨_, rfl, _, _, rfl, rfl, ⟨by decide, by decide⟩, ?_⟩⟩
            refine ⟨some (.int (0 + (k : Int))), ?_, Same.put sm2 hl, ?_⟩
            · have e : ((n >>> k : Nat) : Int) / 2 = ((n >>> (k + 1) : Nat) : Int) := by
                rw [Nat.shiftRight_succ, Int.natCast_ediv]
                rfl
              show [_, _, _, some (V.int (((n >>> k : Nat) : Int) / 2)), _, _, _, _, _, _] = _
              rw [e]
            · rw [upd_same, ← Nat.add_assoc, ← tab_snoc]
              have e : V.int (((n >>> k : Nat) : Int) % 2) = b2 ((val w' ns).testBit (w' * i + k)) := by
                rw [hbit hni hk, Nat.testBit_eq_decide_div_mod_eq, Nat.shiftRight_eq_div_pow]
                simp only [b2, decide_eq_true_eq]
                congr 1
                split <;> omega
              rw [← e]
          · rintro σ G2 ⟨x4, rfl, sm2, hl3⟩
            have e : (w' : Int).toNat = w' := by omega
            rw [e] at hl3
            exact ⟨_, _, _, rfl, sm2, by rw [Nat.mul_succ]; exact hl3⟩
        · rintro σ G ⟨x2, x3, x4, rfl, sm, hl2⟩
          rw [List.length_map] at hl2
          exact ⟨_, _, _, rfl, sm, hl2⟩
      rintro σ G ⟨x2, x3, x4, rfl, sm, hl2⟩
      have hrow : (Rb.row (.bits ns w')).map nI = tab ((w' * ns.length + 7) / 8) fun j => nI (val w' ns / 256 ^ j % 256) := by
        show (le ((w' * ns.length + 7) / 8) (val w' ns)).map nI = _
        apply List.ext_getElem?
        intro j
        by_cases hj : j < (w' * ns.length + 7) / 8
        · rw [tab_at hj, List.getElem?_map, Rb.le_at hj]
          rfl
        · rw [List.getElem?_eq_none (by rw [List.length_map, Rb.le_len]; omega), List.getElem?_eq_none (by rw [tab_len]; omega)]
      generalize val w' ns = VV at *
      generalize w' * ns.length = M at *
      refine ⟨Nat.zero_le _, fun q hq => ?_⟩
      have nlq : l ≠ q := ne_of_none hl2 hq
      have hqH : H q = none := sm.free hq
      have hlt : ∀ z : List V, (tab M fun t => b2 (VV.testBit t)).length = M := fun _ => tab_len _ _
      refine ⟨_, rfl, l, _, rfl, .inl (.inl (.inl (by rw [upd_ne nlq]; exact hl2))), 0, _, 8, (M + 7) / 8, rfl, (by rw [tab_len]; exact rgc8 M (by omega)), for_rangeC (lo := 0) (c := 8) (n := (M + 7) / 8) (fun j σ G => ∃ x2 x3 x4 x6 x7 x8 : Option V, σ = [some (.ref t), some (.ref l), x2, x3, x4, some (.ref q), x6, x7, x8, none] ∧ Same H G ∧ G l = some (.lst (tab M fun t => b2 (VV.testBit t))) ∧ G q = some (.lst (tab j fun j => nI (VV / 256 ^ j % 256))))
        ⟨x2, x3, x4, none, none, none, rfl, Same.put sm hqH, by rw [upd_ne nlq]; exact hl2, upd_same⟩ ?_ ?_⟩
      · rintro j σ G2 hj ⟨x2, x3, x4, x6, x7, x8, rfl, sm2, hl3, hq3⟩
        refine ⟨by show 2 ≤ sizeLine; decide, fun T hT => ⟨T, _, rfl, .inl (.inl upd_same), rfl, _, _, rfl, _, _, rfl, rfl, ?_⟩⟩
        have s3 := Same.new (o := .tup [V.int 1, V.int 0]) hT
        have sm3 := sm2.trans s3
        have hl4 := s3 _ _ hl3
        have hq4 := s3 _ _ hq3
        refine ⟨fun σ G => ∃ x6 x8 : Option V, σ = [some (.ref t), some (.ref l), x2, x3, some (.int (0 + (j : Int) * 8)), some (.ref q), x6, some (nI (VV / 256 ^ j % 256)), x8, none] ∧ Same H G ∧ G l = some (.lst (tab M fun t => b2 (VV.testBit t))) ∧ G q = some (.lst (tab j fun j => nI (VV / 256 ^ j % 256))), ?_, ?_⟩
        · refine ⟨_, rfl, _, rfl, _, rfl, _, rfl, _, _, rfl, rfl, _, rfl, l, _, rfl, .inl (.inl hl4), fun r hr => ?_⟩
          have s4 := Same.new (o := .lst (cutV (tab M fun t => b2 (VV.testBit t)) (some (0 + (j : Int) * 8)) (some ((0 + (j : Int) * 8) + 8)))) hr
          have hr4 : ∀ G', G' r = some (.lst (tab (min 8 (M - 8 * j)) fun t => b2 (VV.testBit (8 * j + t)))) → SqL K G' r (tab (min 8 (M - 8 * j)) fun t => b2 (VV.testBit (8 * j + t))) := fun G' h => .inl (.inl h)
          have hr5 : (upd (upd G2 T (.tup [V.int 1, V.int 0])) r (.lst (cutV (tab M fun t => b2 (VV.testBit t)) (some (0 + (j : Int) * 8)) (some ((0 + (j : Int) * 8) + 8))))) r = some (.lst (tab (min 8 (M - 8 * j)) fun t => b2 (VV.testBit (8 * j + t)))) := by
            rw [upd_same, tab_cut8 (by omega)]
          refine ⟨r, rfl, ⟨_, hr4 _ hr5⟩, for_list (K := K) (a := r) (xs := tab (min 8 (M - 8 * j)) fun t => b2 (VV.testBit (8 * j + t))) (fun u σ G => ∃ x8 : Option V, σ = [some (.ref t), some (.ref l), x2, x3, some (.int (0 + (j : Int) * 8)), some (.ref q), some (nI (2 ^ u)), some (nI (VV / 2 ^ (8 * j) % 2 ^ u)), x8, none] ∧ Same H G ∧ G l = some (.lst (tab M fun t => b2 (VV.testBit t))) ∧ G q = some (.lst (tab j fun j => nI (VV / 256 ^ j % 256))) ∧ G r = some (.lst (tab (min 8 (M - 8 * j)) fun t => b2 (VV.testBit (8 * j + t)))))
            ⟨x8, ?_, sm3.trans s4, s4 _ _ hl4, s4 _ _ hq4, hr5⟩ (fun _ _ G' _ ⟨_, _, _, _, _, e⟩ => hr4 _ e) ?_ ?_⟩
          · rw [Nat.pow_zero, Nat.mod_one]
            rfl
          · rintro u v σ G' hu ⟨x8, rfl, sm5, hl5, hq5, hr6⟩
            have hu8 := (List.getElem?_eq_some_iff.mp hu).1
            rw [tab_len] at hu8
            rw [tab_at hu8] at hu
            obtain rfl := Option.some.inj hu
            refine ⟨_, rfl, _, rfl, _, rfl, _, _, rfl, rfl, .inl (by cases VV.testBit (8 * j + u) <;> decide), _, _, rfl, rfl, _, rfl, _, _, rfl, rfl, .inr ⟨by decide, by decide⟩, _, _, rfl, ?_⟩
            refine ⟨some (b2 (VV.testBit (8 * j + u))), ?_, sm5, hl5, hq5, hr6⟩
            have e1 : V.int (((VV / 2 ^ (8 * j) % 2 ^ u : Nat) : Int) + (if VV.testBit (8 * j + u) = true then 1 else 0) * ((2 ^ u : Nat) : Int)) = nI (VV / 2 ^ (8 * j) % 2 ^ (u + 1)) := by
              rw [V_bit]
              cases VV.testBit (8 * j + u) <;> simp
            have e2 : V.int (((2 ^ u : Nat) : Int) * 2) = nI (2 ^ (u + 1)) := by
              rw [Nat.pow_succ]
              exact congrArg V.int (by omega)
            show [_, _, _, _, _, _, some (V.int (((2 ^ u : Nat) : Int) * 2)), some (V.int (((VV / 2 ^ (8 * j) % 2 ^ u : Nat) : Int) + (if VV.testBit (8 * j + u) = true then 1 else 0) * ((2 ^ u : Nat) : Int))), _, _] = _
            rw [e1, e2]
          · rintro σ G' ⟨x8, rfl, sm5, hl5, hq5, hr6⟩
            have e : VV / 2 ^ (8 * j) % 2 ^ (tab (min 8 (M - 8 * j)) fun t => b2 (VV.testBit (8 * j + t))).length = VV / 256 ^ j % 256 := by
              rw [tab_len, Rb.p256]
              by_cases h8 : 8 ≤ M - 8 * j
              · rw [Nat.min_eq_left h8]
              · have hlt : VV / 2 ^ (8 * j) < 2 ^ (M - 8 * j) := by
                  refine Nat.div_lt_of_lt_mul ?_
                  rw [← Nat.pow_add]
                  have e : 8 * j + (M - 8 * j) = M := by omega
                  rw [e]
                  exact hV
                have hlt2 : 2 ^ (M - 8 * j) ≤ 2 ^ 8 := Nat.pow_le_pow_right (by decide) (by omega)
                rw [Nat.min_eq_right (by omega), Nat.mod_eq_of_lt hlt, Nat.mod_eq_of_lt (Nat.lt_of_lt_of_le hlt hlt2)]
            rw [e]
            exact ⟨_, _, rfl, sm5, hl5, hq5⟩
        · rintro σ G5 ⟨x6, x8, rfl, sm5, hl5, hq5⟩
          refine ⟨_, rfl, .inl ⟨rfl, _, .inl (.inl hq5)⟩, _, rfl, q, _, _, rfl, rfl, hq5, ?_, ?_⟩
          · rw [tab_len]
            exact small1000 (by omega)
          refine ⟨_, _, _, _, _, _, rfl, Same.put sm5 hqH, by rw [upd_ne nlq]; exact hl5, ?_⟩
          rw [upd_same, ← tab_snoc]
      · rintro σ G2 ⟨x2, x3, x4, x6, x7, x8, rfl, sm2, hl3, hq3⟩
        exact ⟨_, rfl, k q _ hqH sm2 (by rw [hrow]; exact hq3)⟩
    | raw bs =>
      obtain ⟨a, h0, ha⟩ := hw
      have h1 : SqT K H t [.str "raw", .ref a] := .inl (.inl h0)
      refine ⟨_, rfl, t, _, _, _, rfl, rfl, h1, (by rfl), rfl, _, rfl, ?_⟩
      refine (if_neg (by decide +kernel)).mpr ?_
      refine ⟨_, rfl, t, _, _, _, rfl, rfl, h1, (by rfl), rfl, _, rfl, ?_⟩
      refine (if_neg (by decide +kernel)).mpr ?_
      refine ⟨_, rfl, t, _, _, _, rfl, rfl, h1, (by rfl), rfl, _, rfl, ?_⟩
      refine (if_pos (by decide +kernel)).mpr ?_
      refine ⟨_, rfl, t, _, _, _, rfl, rfl, h1, (by rfl), a, _, rfl, .inl (.inl (.inl ha)), fun q hq => k q _ hq (Same.new hq) upd_same⟩
end
end Wq

set_option Elab.async false
set_option linter.all false
set_option maxRecDepth 100000
set_option maxHeartbeats 2000000
set_option exponentiation.threshold 5000
namespace Wq
open PySem PySem.Spec PyProof.Rows L2
open Rb (wh le un val Bp Wr)
/-! BadBytes(place) -/
abbrev sBI : Stmt := inClass (top 2) 0
theorem scBI : FnScope ["self", "place"] ["self", "place"] (defScope sBI) := ⟨rfl, rfl, rfl, by decide +kernel, rfl, by decide +kernel, by decide +kernel⟩
structure TxtE (K : PySem.W.Frag) (mg : Str → Option Value) (CE fI : Addr) : Prop where
  ox : OexC K CE
  nP : PySem.W.findIn K (.ref CE) "place" = some none
  iC : PySem.W.findIn K (.ref CE) "__init__" = some (some (.ref fI))
  tI : PySem.W.typeIn K (.ref fI) = some (.type "function")
  gC : mg "BadBytes" = some (.ref CE)
  xf : XfC K CE
  te : PySem.W.exmOne K (.ref CE) (.ref CE) = some true
def spBI (CE : Addr) : Sp := fun vs H Q _ => ∃ (a : Addr) (v : V), vs = [.ref a, v] ∧ H a = some (exo a CE none) ∧ ∀ d, H d = none → d ≠ a → Q .non (upd (upd H d (exd d [("place", v)])) a (exo a CE (some d)))
/-- the error of a place: what is told of it -/
def Err (H H' : Hp) (d : Addr) (k : Nat) : Prop := Same H H' ∧ H d = none ∧ H' d = some (.xd [("place", nI k)])
theorem err_heap {H : Hp} {a d CE : Addr} {k : Nat} (ha : H a = none) (hd : (upd H a (exo a CE none)) d = none) (hda : d ≠ a) : Err H (upd (del (upd (upd (upd H a (exo a CE none)) d (exd d [("place", nI k)])) a (exo a CE (some d))) a) d (.xd [("place", nI k)])) d k := by
  have hd' : H d = none := by rw [upd_ne hda] at hd; exact hd
  refine ⟨fun b o e => ?_, hd', upd_same⟩
  have hba : b ≠ a := ne_of_none e ha
  have hbd : b ≠ d := ne_of_none e hd'
  rw [upd_ne hbd, del_ne hba, upd_ne hba, upd_ne hbd, upd_ne hba]
  exact e
/-! RowReader -/
def rf (q : Addr) (i : Nat) (b : Bool) : List (Str × V) := [("_row", .ref q), ("at", nI i), ("is_done", .bl b)]
theorem rf_row (q : Addr) (i : Nat) (b : Bool) : (rf q i b).lookup ("_row" : Str) = some (.ref q) := by rfl
theorem rf_at (q : Addr) (i : Nat) (b : Bool) : (rf q i b).lookup ("at" : Str) = some (nI i) := by rfl
theorem rf_done (q : Addr) (i : Nat) (b : Bool) : (rf q i b).lookup ("is_done" : Str) = some (.bl b) := by rfl
/-- a RowReader stands at p, its row at q, so many bytes read -/
structure RAt (C : Addr) (H : Hp) (p q : Addr) (row : List Nat) (i : Nat) : Prop where
  ob : ∃ dx, H p = some (.ins C dx (rf q i (i == row.length)))
  tp : H q = some (.tup (row.map nI))
theorem RAt.same {C : Addr} {H H' : Hp} {p q : Addr} {row : List Nat} {i : Nat} (R : RAt C H p q row i) (s : Same H H') : RAt C H' p q row i := by
  obtain ⟨dx, h⟩ := R.ob
  exact ⟨⟨dx, s _ _ h⟩, s _ _ R.tp⟩
theorem RAt.ne {C : Addr} {H : Hp} {p q : Addr} {row : List Nat} {i : Nat} (R : RAt C H p q row i) : q ≠ p := by
  obtain ⟨dx, h⟩ := R.ob
  exact ne_of R.tp h (by intro z; cases z)
abbrev sRI : Stmt := inClass (top 8) 0
abbrev sRG : Stmt := inClass (top 8) 1
abbrev sRB : Stmt := inClass (top 8) 2
abbrev sRY : Stmt := inClass (top 8) 3
abbrev sRF : Stmt := inClass (top 8) 4
abbrev sRW : Stmt := inClass (top 8) 5
abbrev sRS : Stmt := inClass (top 8) 6
abbrev sRT : Stmt := inClass (top 8) 7
abbrev sRN : Stmt := inClass (top 8) 8
abbrev sRR : Stmt := inClass (top 8) 9
theorem scRI : FnScope ["self", "row"] ["self", "row"] (defScope sRI) := ⟨rfl, rfl, rfl, by decide +kernel, rfl, by decide +kernel, by decide +kernel⟩
theorem scRG : FnScope ["self", "place"] ["self", "place"] (defScope sRG) := ⟨rfl, rfl, rfl, by decide +kernel, rfl, by decide +kernel, by decide +kernel⟩
theorem scRB : FnScope ["self", "place"] ["self", "place"] (defScope sRB) := ⟨rfl, rfl, rfl, by decide +kernel, rfl, by decide +kernel, by decide +kernel⟩
theorem scRY : FnScope ["self", "value"] ["self"] (defScope sRY) := ⟨rfl, rfl, rfl, by decide +kernel, rfl, by decide +kernel, by decide +kernel⟩
theorem scRF : FnScope ["self", "place", "number", "shift", "group"] ["self", "place"] (defScope sRF) := ⟨rfl, rfl, rfl, by decide +kernel, rfl, by decide +kernel, by decide +kernel⟩
theorem scRW : FnScope ["self", "number", "place"] ["self"] (defScope sRW) := ⟨rfl, rfl, rfl, by decide +kernel, rfl, by decide +kernel, by decide +kernel⟩
abbrev NRS : List Str := ["self", "many", "begin", "end", "place", "index"]
theorem scRS : FnScope NRS ["self"] (defScope sRS) := ⟨rfl, rfl, rfl, by decide +kernel, rfl, by decide +kernel, by decide +kernel⟩
theorem scRT : FnScope ["self", "many", "width", "end", "numbers"] ["self", "many", "width"] (defScope sRT) := ⟨rfl, rfl, rfl, by decide +kernel, rfl, by decide +kernel, by decide +kernel⟩
theorem scRN : FnScope ["self", "many", "width", "end", "numbers", "held", "held_bits", "place"] ["self", "many", "width", "end"] (defScope sRN) := ⟨rfl, rfl, rfl, by decide +kernel, rfl, by decide +kernel, by decide +kernel⟩
theorem scRR : FnScope ["self", "many", "end", "row"] ["self", "many"] (defScope sRR) := ⟨rfl, rfl, rfl, by decide +kernel, rfl, by decide +kernel, by decide +kernel⟩
structure TxtR (K : PySem.W.Frag) (mg : Str → Option Value) (C : Addr) : Prop where
  cl : Cls K C
  nR : NoAttr K C "_row"
  nA : NoAttr K C "at"
  nD : NoAttr K C "is_done"
  sg : ∃ t, mg "SIGNS" = some (.str SG t)
def spRI (C : Addr) : Sp := fun vs H Q _ => ∃ (p dx q : Addr) (row : List Nat), vs = [.ref p, .ref q] ∧ H p = some (.ins C dx []) ∧ H q = some (.tup (row.map nI)) ∧ (∀ H', But p H H' → RAt C H' p q row 0 → Q .non H')
def spRG (C : Addr) : Sp := fun vs H Q _ => ∃ (p q : Addr) (row : List Nat) (i j : Nat), vs = [.ref p, nI j] ∧ RAt C H p q row i ∧ (∀ H', But p H H' → RAt C H' p q row j → Q .non H')
def spRB (C CE : Addr) : Sp := fun vs H Q E => ∃ (p q : Addr) (row : List Nat) (i j : Nat), vs = [.ref p, nI j] ∧ RAt C H p q row i ∧ (∀ b, row[j]? = some b → Q (nI b) H) ∧ (row.length ≤ j → ∀ d H', Err H H' d row.length → E (.ref CE) (some d) H')
section
variable {P : Program} {w : World} {K : PySem.W.Frag} {mg : Str → Option Value} {base : Heap} {C CE fI : Addr}
theorem ok_BI {fd : FuncData} (F : Fun K "__init__" "BadBytes.__init__" sBI fI fd) (T : TxtE K mg CE fI) : FnOk P w K mg base CX0 1 fI fd ["self", "place"] (spBI CE) := by
  refine F.ok scBI (fun vs H Q E h => ?_) (fun cdv A outer s H vs Q E hr h => ?_)
  · obtain ⟨a, v, rfl, _⟩ := h
    rfl
  · obtain ⟨a, v, rfl, ha, k⟩ := h
    exact ⟨_, pss_one (ps_ost (pv 0) (pv 1)), _, rfl, _, rfl, a, CE, rfl, T.ox, T.nP, .inl ⟨ha, fun dx n ne => k dx n ne⟩⟩
theorem ok_RI {f : Addr} {fd : FuncData} (F : Fun K "__init__" "RowReader.__init__" sRI f fd) (T : TxtR K mg C) (TT : Txt K mg) : FnOk P w K mg base CX0 1 f fd ["self", "row"] (spRI C) := by
  refine F.ok scRI (fun vs H Q E h => ?_) (fun cdv A outer s H vs Q E hr h => ?_)
  · obtain ⟨p, dx, q, row, rfl, _⟩ := h
    rfl
  · obtain ⟨p, dx, q, row, rfl, hp, hq, k⟩ := h
    have npq : q ≠ p := ne_of hq hp (by intro z; cases z)
    refine ⟨_, pss_cons (ps_fld (pv 0) (pe_callTy call_tuple_of (by rfl) (by exact TT.tuple) (by decide +kernel) (pa_cons (pv 1) pa_nil)) rfl)
      (pss_cons (ps_fld (pv 0) pe_int rfl)
      (pss_one (ps_fld (pv 0) (pe_cmpR op_eq (pe_callB call_len_seq (by rfl) (by exact TT.len) PySem.boot_len (pa_cons (pe_fld (pv 0) rfl) pa_nil)) pe_int (nomark _)) rfl))), ?_⟩
    refine ⟨_, rfl, q, _, rfl, .inr ⟨.inl (.inl hq), _, rfl, p, C, dx, [], rfl, hp, T.cl, T.nR, (by show 0 < 1000; decide), ?_⟩⟩
    refine ⟨_, rfl, p, C, dx, _, rfl, upd_same, T.cl, T.nA, (by show 1 < 1000; decide), ?_⟩
    refine ⟨_, rfl, p, C, dx, _, _, rfl, upd_same, T.cl, T.nR, rfl, q, _, rfl, .inr (.inl (.inl (by rw [upd_ne npq, upd_ne npq]; exact hq))), rfl, _, rfl, p, C, dx, _, rfl, upd_same, T.cl, T.nD, (by show 2 < 1000; decide), ?_⟩
    refine k _ (fun b o e n => by rw [upd_ne n, upd_ne n, upd_ne n]; exact e) ⟨⟨dx, ?_⟩, by rw [upd_ne npq, upd_ne npq, upd_ne npq]; exact hq⟩
    rw [upd_same]
    have e : decide (V.int (((row.map nI).length : Nat) : Int) = V.int 0) = (0 == row.length) := by
      rw [List.length_map]
      cases row with
      | nil => rfl
      | cons b r => exact decide_eq_false (fun z => by have := V.int.inj z; simp at this; omega)
    rw [e]
    rfl
theorem ok_RG {f : Addr} {fd : FuncData} (F : Fun K "_go_to" "RowReader._go_to" sRG f fd) (T : TxtR K mg C) (TT : Txt K mg) : FnOk P w K mg base CX0 1 f fd ["self", "place"] (spRG C) := by
  refine F.ok scRG (fun vs H Q E h => ?_) (fun cdv A outer s H vs Q E hr h => ?_)
  · obtain ⟨p, q, row, i, j, rfl, _⟩ := h
    rfl
  · obtain ⟨p, q, row, i, j, rfl, R, k⟩ := h
    obtain ⟨dx, hp⟩ := R.ob
    have npq := R.ne
    refine ⟨_, pss_cons (ps_fld (pv 0) (pv 1) rfl)
      (pss_one (ps_fld (pv 0) (pe_cmpR op_eq (pv 1) (pe_callB call_len_seq (by rfl) (by exact TT.len) PySem.boot_len (pa_cons (pe_fld (pv 0) rfl) pa_nil)) (nomark _)) rfl)), ?_⟩
    refine ⟨_, rfl, _, rfl, p, C, dx, _, rfl, hp, T.cl, T.nA, (by show 3 < 1000; decide), ?_⟩
    refine ⟨_, rfl, _, rfl, p, C, dx, _, _, rfl, upd_same, T.cl, T.nR, rfl, q, _, rfl, .inr (.inl (.inl (by rw [upd_ne npq]; exact R.tp))), rfl, _, rfl, p, C, dx, _, rfl, upd_same, T.cl, T.nD, (by show 3 < 1000; decide), ?_⟩
    refine k _ (fun b o e n => by rw [upd_ne n, upd_ne n]; exact e) ⟨⟨dx, ?_⟩, by rw [upd_ne npq, upd_ne npq]; exact R.tp⟩
    rw [upd_same]
    have e : decide (nI j = V.int (((row.map nI).length : Nat) : Int)) = (j == row.length) := by
      rw [List.length_map]
      by_cases h : j = row.length
      · rw [h]
        simp
      · have e2 : (j == row.length) = false := by simp [h]
        rw [e2]
        exact decide_eq_false (fun z => h (Int.ofNat_inj.mp (V.int.inj z)))
    rw [e]
    rfl
end
end Wq

set_option Elab.async false
set_option linter.all false
set_option maxRecDepth 100000
set_option maxHeartbeats 2000000
set_option exponentiation.threshold 5000
namespace Rb
/-- a whole number read: the groups that are left, how many were read, what they are worth -/
inductive RW
  | err (i : Nat)
  | ok (n c : Nat)
def rwa : List Nat → Nat → Nat → RW
  | [], i, _ => .err i
  | b :: r, i, acc => if b > 127 then rwa r (i + 1) (acc + 2 ^ (7 * i) * (b % 128)) else if b = 0 ∧ 0 < i then .err i else .ok (acc + 2 ^ (7 * i) * b) (i + 1)
theorem rwa_at {row : List Nat} {k b i acc : Nat} (h : row[k]? = some b) : rwa (row.drop k) i acc = if b > 127 then rwa (row.drop (k + 1)) (i + 1) (acc + 2 ^ (7 * i) * (b % 128)) else if b = 0 ∧ 0 < i then .err i else .ok (acc + 2 ^ (7 * i) * b) (i + 1) := by
  have hk := (List.getElem?_eq_some_iff.mp h).1
  have e : row.drop k = b :: row.drop (k + 1) := by
    rw [List.drop_eq_getElem_cons hk]
    congr 1
    exact (List.getElem?_eq_some_iff.mp h).2
  rw [e]
  rfl
theorem rwa_out {row : List Nat} {k i acc : Nat} (h : row.length ≤ k) : rwa (row.drop k) i acc = .err i := by
  rw [List.drop_eq_nil_of_le h]
  rfl
theorem rwa_ok {l : List Nat} {i acc n c : Nat} (h : rwa l i acc = .ok n c) : c ≤ i + l.length := by
  induction l generalizing i acc with
  | nil => cases h
  | cons b r ih =>
    unfold rwa at h
    by_cases h1 : b > 127
    · rw [if_pos h1] at h
      have := ih h
      simp only [List.length_cons]
      omega
    · rw [if_neg h1] at h
      by_cases h2 : b = 0 ∧ 0 < i
      · rw [if_pos h2] at h; cases h
      · rw [if_neg h2] at h
        cases h
        simp only [List.length_cons]
        omega
end Rb
namespace Wq
open PySem PySem.Spec PyProof.Rows L2
open Rb (wh le un val Bp Wr rwa)
def spRY (C CE : Addr) : Sp := fun vs H Q E => ∃ (p q : Addr) (row : List Nat) (i : Nat), vs = [.ref p] ∧ RAt C H p q row i ∧ (∀ b H', row[i]? = some b → But p H H' → RAt C H' p q row (i + 1) → Q (nI b) H') ∧ (row.length ≤ i → ∀ d H', Err H H' d row.length → E (.ref CE) (some d) H')
def spRF (C CE : Addr) : Sp := fun vs H Q E => ∃ (p q : Addr) (row : List Nat) (i j : Nat), vs = [.ref p, nI j] ∧ RAt C H p q row i ∧ j ≤ row.length ∧ row.length ≤ 100000 ∧ (∀ b ∈ row, b < 256) ∧
  (∀ n c, rwa (row.drop j) 0 0 = .ok n c → ∀ t, H t = none → Q (.ref t) (upd H t (.tup [nI n, nI (j + c)]))) ∧ (∀ e, rwa (row.drop j) 0 0 = .err e → ∀ d H', Err H H' d (j + e) → E (.ref CE) (some d) H')
def spRW (C CE : Addr) : Sp := fun vs H Q E => ∃ (p q : Addr) (row : List Nat) (i : Nat), vs = [.ref p] ∧ RAt C H p q row i ∧ i ≤ row.length ∧ row.length ≤ 100000 ∧ (∀ b ∈ row, b < 256) ∧
  (∀ n c H', rwa (row.drop i) 0 0 = .ok n c → But p H H' → RAt C H' p q row (i + c) → Q (nI n) H') ∧ (∀ e, rwa (row.drop i) 0 0 = .err e → ∀ d H', Err H H' d (i + e) → E (.ref CE) (some d) H')
section
variable {P : Program} {w : World} {K : PySem.W.Frag} {mg : Str → Option Value} {base : Heap} {C CE fI : Addr}
theorem Err.out {H : Hp} {a d CE : Addr} {k : Nat} {E : XK} (h : ∀ d H', Err H H' d k → E (.ref CE) (some d) H') (ha : H a = none) (hd : (upd H a (exo a CE none)) d = none) (hda : d ≠ a) :
    E (.ref CE) (some d) (upd (del (upd (upd (upd H a (exo a CE none)) d (exd d [("place", nI k)])) a (exo a CE (some d))) a) d (.xd [("place", nI k)])) := h d _ (err_heap ha hd hda)
theorem ok_RB {f : Addr} {fd fdI : FuncData} (F : Fun K "_byte_at" "RowReader._byte_at" sRB f fd) (T : TxtR K mg C) (TT : Txt K mg) (TE : TxtE K mg CE fI) (GI : FnOk P w K mg base CX0 1 fI fdI ["self", "place"] (spBI CE)) (bI : Binds K fdI ["self", "place"] []) :
    FnOk P w K mg base (L2.CX P w) 3 f fd ["self", "place"] (spRB C CE) := by
  refine F.okX scRB (fun vs H Q E h => ?_) (fun cdv A outer s H vs Q E hr h => ?_)
  · obtain ⟨p, q, row, i, j, rfl, _⟩ := h
    rfl
  · obtain ⟨p, q, row, i, j, rfl, R, k1, k2⟩ := h
    obtain ⟨dx, hp⟩ := R.ob
    refine ⟨_, pss_cons (ps_if (pt_cmpR op_ge (pv 1) (pe_callB call_len_seq (by rfl) (by exact TT.len) PySem.boot_len (pa_cons (pe_fld (pv 0) rfl) pa_nil)) (nomark _))
      (pss_one (ps_raise rfl (takes_of rfl rfl rfl rfl) (pmk_oex TE.ox TE.iC TE.tI GI hr bI .nil pass0 rfl (by exact TE.gC) (by exact (pa_cons (pe_callB call_len_seq (by rfl) (by exact TT.len) PySem.boot_len (pa_cons (pe_fld (pv 0) rfl) pa_nil)) pa_nil))))) pss_nil)
      (pss_one (ps_ret (pe_ix ix_tup (pe_fld (pv 0) rfl) (pv 1) (fun _ _ => rfl)))), ?_⟩
    have hrow : SqT K H q (row.map nI) := .inl (.inl R.tp)
    refine ⟨_, rfl, _, rfl, p, C, dx, _, _, rfl, hp, T.cl, T.nR, rfl, q, _, rfl, .inr hrow, _, _, rfl, rfl, _, rfl, ?_⟩
    refine ite2 (fun hc => ?_) (fun hc => ?_)
    · have hc : row.length ≤ j := by
        have := of_decide_eq_true hc
        rw [List.length_map] at this
        omega
      refine ⟨_, rfl, p, C, dx, _, _, rfl, hp, T.cl, T.nR, rfl, q, _, rfl, .inr hrow, (by show 1 ≤ 1000; decide), fun a ha => ⟨a, _, rfl, upd_same, fun d hd hda => ⟨rfl, d, _, upd_same, by rw [upd_ne hda, upd_same], by rw [upd_ne hda] at hd; exact hd, ?_⟩⟩⟩
      have e := Err.out (k2 hc) ha hd hda
      rw [← List.length_map (f := nI) (as := row)] at e
      exact e
    · have hc : j < row.length := by
        have : ¬ (((row.map nI).length : Nat) : Int) ≤ (j : Int) := fun z => hc (decide_eq_true z)
        rw [List.length_map] at this
        omega
      refine ⟨_, rfl, p, C, dx, _, _, rfl, hp, T.cl, T.nR, rfl, _, rfl, q, _, _, nI row[j], rfl, rfl, hrow, ?_, ?_⟩
      · exact atI_nat (by rw [List.getElem?_map, List.getElem?_eq_getElem hc]; rfl)
      · exact k1 _ (List.getElem?_eq_getElem hc)
theorem ok_RY {f fB fG : Addr} {fd fdB fdG : FuncData} (F : Fun K "byte" "RowReader.byte" sRY f fd) (T : TxtR K mg C) (MB : Meth K C "_byte_at" fB) (GB : FnOk P w K mg base (L2.CX P w) 3 fB fdB ["self", "place"] (spRB C CE)) (bB : Binds K fdB ["self", "place"] [])
    (MG : Meth K C "_go_to" fG) (GG : FnOk P w K mg base CX0 1 fG fdG ["self", "place"] (spRG C)) (bG : Binds K fdG ["self", "place"] []) :
    FnOk P w K mg base (L2.CX P w) 4 f fd ["self"] (spRY C CE) := by
  refine F.okX scRY (fun vs H Q E h => ?_) (fun cdv A outer s H vs Q E hr h => ?_)
  · obtain ⟨p, q, row, i, rfl, _⟩ := h
    rfl
  · obtain ⟨p, q, row, i, rfl, R, k1, k2⟩ := h
    obtain ⟨dx, hp⟩ := R.ob
    refine ⟨_, pss_cons (ps_set (i := 1) scRY.nd rfl (Or.inl rfl) (pe_meth (pv 0) T.cl MB GB hr bB .nil (passes_call (takes_of rfl rfl rfl rfl) (fun _ _ _ _ h => h)) (pa_cons (pe_fld (pv 0) rfl) pa_nil)))
      (pss_cons (ps_expr (pe_meth (pv 0) T.cl MG GG (hr.mono (by decide)) bG .nil pass0 (pa_cons (pe_op nn_add (pe_fld (pv 0) rfl) pe_int) pa_nil)))
      (pss_one (ps_ret (pv 1)))), ?_⟩
    refine ⟨_, rfl, p, dx, _, rfl, hp, by rfl, _, rfl, p, C, dx, _, _, rfl, hp, T.cl, T.nA, rfl, p, q, row, i, i, rfl, R, fun b hb => ?_, fun hl d H' he => k2 hl d H' he⟩
    refine ⟨_, rfl, p, dx, _, rfl, hp, by rfl, _, rfl, p, C, dx, _, _, rfl, hp, T.cl, T.nA, rfl, i, 1, rfl, rfl, trivial, p, q, row, i, i + 1, rfl, R, fun H' B R' => ?_⟩
    exact ⟨_, rfl, k1 b H' hb B R'⟩
theorem ok_RF {f fB : Addr} {fd fdB fdI : FuncData} (F : Fun K "_whole_from" "RowReader._whole_from" sRF f fd) (T : TxtR K mg C) (TE : TxtE K mg CE fI) (GI : FnOk P w K mg base CX0 1 fI fdI ["self", "place"] (spBI CE)) (bI : Binds K fdI ["self", "place"] [])
    (MB : Meth K C "_byte_at" fB) (GB : FnOk P w K mg base (L2.CX P w) 3 fB fdB ["self", "place"] (spRB C CE)) (bB : Binds K fdB ["self", "place"] []) :
    FnOk P w K mg base (L2.CX P w) 4 f fd ["self", "place"] (spRF C CE) := by
  refine F.okX scRF (fun vs H Q E h => ?_) (fun cdv A outer s H vs Q E hr h => ?_)
  · obtain ⟨p, q, row, i, j, rfl, _⟩ := h
    rfl
  · obtain ⟨p, q, row, i, j, rfl, R, hj, hlr, hb8, k1, k2⟩ := h
    obtain ⟨dx, hp⟩ := R.ob
    refine ⟨_, pss_cons (ps_set (i := 2) scRF.nd rfl (Or.inl rfl) pe_int)
      (pss_cons (ps_set (i := 3) scRF.nd rfl (Or.inl rfl) pe_int)
      (pss_cons (ps_set (i := 4) scRF.nd rfl (Or.inl rfl) (pe_meth (pv 0) T.cl MB GB hr bB .nil (passes_call (takes_of rfl rfl rfl rfl) (fun _ _ _ _ h => h)) (pa_cons (pv 1) pa_nil)))
      (pss_cons (ps_while (passes_of rfl) (pt_cmpR op_gt (pv 4) pe_int (nomark _))
      (pss_cons (ps_aug (i := 2) scRF.nd rfl (Or.inl rfl) (pe_op nn_shl (pe_op nn_and (pv 4) pe_int) (pv 3)) ni_or)
      (pss_cons (ps_aug (i := 3) scRF.nd rfl (Or.inl rfl) pe_int ni_add)
      (pss_cons (ps_aug (i := 1) scRF.nd rfl (Or.inl rfl) pe_int ni_add)
      (pss_one (ps_set (i := 4) scRF.nd rfl (Or.inl rfl) (pe_meth (pv 0) T.cl MB GB hr bB .nil (passes_call (takes_of rfl rfl rfl rfl) (fun _ _ _ _ h => h)) (pa_cons (pv 1) pa_nil))))))))
      (pss_cons (ps_if (PW.pt (pw_and (pt_cmpR op_eq (pv 4) pe_int (nomark _)) (pw_and1 (pt_cmpR op_gt (pv 3) pe_int (nomark _)))))
      (pss_one (ps_raise rfl (takes_of rfl rfl rfl rfl) (pmk_oex TE.ox TE.iC TE.tI GI (hr.mono (by decide)) bI .nil pass0 rfl (by exact TE.gC) (by exact (pa_cons (pv 1) pa_nil)))))
      pss_nil)
      (pss_one (ps_ret (pe_tup (pa_cons (pe_op nn_or (pv 2) (pe_op nn_shl (pv 4) (pv 3))) (pa_cons (pe_op nn_add (pv 1) pe_int) pa_nil))))))))), ?_⟩
    refine ⟨_, rfl, p, dx, _, rfl, hp, by rfl, _, rfl, p, q, row, i, j, rfl, R, fun b hb => ?_, fun hl d H' he => ?_⟩
    · refine while_by (fun σ H' => H' = H ∧ ∃ (n b acc : Nat), σ = [some (.ref p), some (nI (j + n)), some (nI acc), some (nI (7 * n)), some (nI b)] ∧ row[j + n]? = some b ∧ acc < 2 ^ (7 * n) ∧ rwa (row.drop j) 0 0 = rwa (row.drop (j + n)) n acc)
        (fun σ H' => match σ with | [_, some (.int y), _, _, _] => row.length - y.toNat | _ => 0)
        ⟨rfl, 0, b, 0, rfl, hb, by decide, rfl⟩ ?_ ?_
      · rintro σ H' ⟨rfl, n, b, acc, rfl, hbn, hacc, e⟩
        have hb256 : b < 256 := hb8 b (List.mem_of_getElem? hbn)
        have hln := (List.getElem?_eq_some_iff.mp hbn).1
        rw [Rb.rwa_at hbn] at e
        refine ⟨_, rfl, _, _, rfl, rfl, _, rfl, ?_⟩
        refine ite2 (fun hc => ?_) (fun hc => ?_)
        · have hc : b > 127 := by have := of_decide_eq_true hc; omega
          rw [if_pos hc] at e
          have em : b &&& 127 = b % 128 := Nat.and_two_pow_sub_one_eq_mod b 7
          refine ⟨_, rfl, _, rfl, b, 127, rfl, rfl, trivial, _, rfl, b &&& 127, 7 * n, rfl, rfl, ⟨by omega, by omega⟩, acc, _, rfl, rfl, trivial, ?_⟩
          refine ⟨_, rfl, 7 * n, 7, rfl, rfl, trivial, _, rfl, j + n, 1, rfl, rfl, trivial, ?_⟩
          have eo : acc ||| (b &&& 127) <<< (7 * n) = acc + 2 ^ (7 * n) * (b % 128) := by rw [Rb.or_shl hacc, em]
          have hacc2 : acc + 2 ^ (7 * n) * (b % 128) < 2 ^ (7 * (n + 1)) := by
            rw [Nat.mul_succ, Nat.pow_add]
            have h1 : 2 ^ (7 * n) * (b % 128) + 2 ^ (7 * n) ≤ 2 ^ (7 * n) * 2 ^ 7 := by
              rw [← Nat.mul_succ]
              exact Nat.mul_le_mul_left _ (show b % 128 + 1 ≤ 2 ^ 7 by omega)
            omega
          refine ⟨_, rfl, p, dx, _, rfl, hp, by rfl, _, rfl, p, q, row, i, j + n + 1, rfl, R, fun b' hb' => ?_, fun hl d H2 he => ?_⟩
          · refine ⟨⟨rfl, n + 1, b', acc + 2 ^ (7 * n) * (b % 128), ?_, hb', hacc2, e⟩, ?_⟩
            · show [_, some (nI (j + n + 1)), some (nI (acc ||| (b &&& 127) <<< (7 * n))), some (nI (7 * n + 7)), _] = _
              rw [eo]
              rfl
            · show row.length - ((j + n + 1 : Nat) : Int).toNat < row.length - ((j + n : Nat) : Int).toNat
              omega
          · have el : row.length = j + (n + 1) := by omega
            have e' := e.trans (Rb.rwa_out (show row.length ≤ j + n + 1 by omega))
            rw [el] at he
            exact k2 _ e' d H2 he
        · have hc : ¬ b > 127 := fun z => hc (decide_eq_true (by omega))
          rw [if_neg hc] at e
          -- the last group
          have emit : ¬ (b = 0 ∧ 0 < n) → 2 ≤ sizeLine ∧ ∀ t, H' t = none → Q (.ref t) (upd H' t (.tup [nI (acc ||| b <<< (7 * n)), nI (j + n + 1)])) := by
            intro hz
            rw [if_neg hz] at e
            refine ⟨by decide, fun t ht => ?_⟩
            rw [Rb.or_shl hacc]
            exact k1 _ _ e t ht
          refine ⟨_, rfl, rfl, _, rfl, ?_⟩
          refine ite2 (fun h0 => ?_) (fun h0 => ?_)
          · have h0 : b = 0 := Int.ofNat_inj.mp (V.int.inj (of_decide_eq_true h0))
            refine ⟨_, rfl, _, _, rfl, rfl, _, rfl, ?_⟩
            refine ite2 (fun h1 => ?_) (fun h1 => ?_)
            · have h1 : 0 < n := by have := of_decide_eq_true h1; omega
              rw [if_pos ⟨h0, h1⟩] at e
              exact ⟨_, rfl, (by show 1 ≤ 1000; decide), fun a ha => ⟨a, _, rfl, upd_same, fun d hd hda => ⟨rfl, d, _, upd_same, by rw [upd_ne hda, upd_same], by rw [upd_ne hda] at hd; exact hd, Err.out (k2 _ e) ha hd hda⟩⟩⟩
            · have h1 : ¬ 0 < n := fun z => h1 (decide_eq_true (by omega))
              exact ⟨_, rfl, _, rfl, _, rfl, b, 7 * n, rfl, rfl, ⟨by omega, by omega⟩, acc, _, rfl, rfl, trivial, _, rfl, j + n, 1, rfl, rfl, trivial, emit (fun z => h1 z.2)⟩
          · have h0 : ¬ b = 0 := fun z => h0 (decide_eq_true (by rw [z]; rfl))
            exact ⟨_, rfl, _, rfl, _, rfl, b, 7 * n, rfl, rfl, ⟨by omega, by omega⟩, acc, _, rfl, rfl, trivial, _, rfl, j + n, 1, rfl, rfl, trivial, emit (fun z => h0 z.1)⟩
      · intro σ H' Q' Q'' hq h
        obtain ⟨v, h1, h⟩ := h
        obtain ⟨i, j, e1, e2, k', e3, h⟩ := h
        exact ⟨v, h1, i, j, e1, e2, k', e3, hq _ _ h⟩
    · have e : rwa (row.drop j) 0 0 = .err 0 := Rb.rwa_out hl
      have el : row.length = j + 0 := by omega
      rw [el] at he
      exact k2 0 e d H' he
theorem ok_RW {f fF fG : Addr} {fd fdF fdG : FuncData} (F : Fun K "whole" "RowReader.whole" sRW f fd) (T : TxtR K mg C) (MF : Meth K C "_whole_from" fF) (GF : FnOk P w K mg base (L2.CX P w) 4 fF fdF ["self", "place"] (spRF C CE)) (bF : Binds K fdF ["self", "place"] [])
    (MG : Meth K C "_go_to" fG) (GG : FnOk P w K mg base CX0 1 fG fdG ["self", "place"] (spRG C)) (bG : Binds K fdG ["self", "place"] []) :
    FnOk P w K mg base (L2.CX P w) 5 f fd ["self"] (spRW C CE) := by
  refine F.okX scRW (fun vs H Q E h => ?_) (fun cdv A outer s H vs Q E hr h => ?_)
  · obtain ⟨p, q, row, i, rfl, _⟩ := h
    rfl
  · obtain ⟨p, q, row, i, rfl, R, hi, hlr, hb8, k1, k2⟩ := h
    obtain ⟨dx, hp⟩ := R.ob
    refine ⟨_, pss_cons (ps_asg (pe_meth (pv 0) T.cl MF GF hr bF .nil (passes_call (takes_of rfl rfl rfl rfl) (fun _ _ _ _ h => h)) (pa_cons (pe_fld (pv 0) rfl) pa_nil)) (pg_tup (by rfl) (pgs_cons (pg_name (i := 1) scRW.nd rfl (Or.inl rfl)) (pgs_cons (pg_name (i := 2) scRW.nd rfl (Or.inl rfl)) pgs_nil))))
      (pss_cons (ps_expr (pe_meth (pv 0) T.cl MG GG (hr.mono (by decide)) bG .nil pass0 (pa_cons (pv 2) pa_nil)))
      (pss_one (ps_ret (pv 1)))), ?_⟩
    refine ⟨_, rfl, p, dx, _, rfl, hp, by rfl, _, rfl, p, C, dx, _, _, rfl, hp, T.cl, T.nA, rfl, p, q, row, i, i, rfl, R, hi, hlr, hb8, fun n c e t ht => ?_, fun e he d H' hd => k2 e he d H' hd⟩
    refine ⟨t, _, rfl, .inl (.inl upd_same), rfl, _, _, rfl, _, _, rfl, rfl, ?_⟩
    have s1 := Same.new (o := .tup [nI n, nI (i + c)]) ht
    have R1 := R.same s1
    refine ⟨_, rfl, p, dx, _, rfl, s1 _ _ hp, by rfl, _, rfl, p, q, row, i, i + c, rfl, R1, fun H' B R' => ?_⟩
    exact ⟨_, rfl, k1 n c H' e ((But.same s1).trans B) R'⟩
end
end Wq

set_option Elab.async false
set_option linter.all false
set_option maxRecDepth 100000
set_option maxHeartbeats 2000000
set_option exponentiation.threshold 5000
namespace Rb
inductive Res
  | err (p : Nat)
  | whole (n a : Nat)
  | text (t : List Nat) (a : Nat)
  | nums (ns : List Nat) (a : Nat)
  | bytes (bs : List Nat) (a : Nat)
def fb : List Nat → Option Nat
  | [] => none
  | b :: r => if b > 94 then some 0 else (fb r).map (· + 1)
theorem fb_none {l : List Nat} (h : ∀ j b : Nat, l[j]? = some b → b ≤ 94) : fb l = none := by
  induction l with
  | nil => rfl
  | cons b r ih =>
    unfold fb
    rw [if_neg (by have := h 0 b rfl; omega), ih fun j c hc => h (j + 1) c hc]
    rfl
theorem fb_some {l : List Nat} {i b : Nat} (hi : l[i]? = some b) (hb : b > 94) (h : ∀ j c : Nat, j < i → l[j]? = some c → c ≤ 94) : fb l = some i := by
  induction l generalizing i with
  | nil => cases hi
  | cons a r ih =>
    unfold fb
    cases i with
    | zero =>
      obtain rfl := Option.some.inj hi
      rw [if_pos hb]
    | succ i =>
      rw [if_neg (by have := h 0 a (by omega) rfl; omega), ih hi fun j c hj hc => h (j + 1) c (by omega) hc]
      rfl
def rdWhole (row : List Nat) (i : Nat) : Res := match rwa (row.drop i) 0 0 with
  | .err e => .err (i + e)
  | .ok n c => .whole n (i + c)
def rdSigns (row : List Nat) (i : Nat) : Res := match rwa (row.drop i) 0 0 with
  | .err e => .err (i + e)
  | .ok n c => match fb ((row.drop (i + c)).take n) with
    | some k => .err (i + c + k)
    | none => if row.length < i + c + n then .err row.length else .text ((row.drop (i + c)).take n) (i + c + n)
def many (m w : Nat) : Nat := (m * w + 7) / 8
def cutN (U w m : Nat) : List Nat := (List.range m).map fun j => U / 2 ^ (w * j) % 2 ^ w
def rdBits (row : List Nat) (i m w : Nat) : Res :=
  if row.length < i + many m w then .err row.length else
    if un ((row.drop i).take (many m w)) / 2 ^ (w * m) > 0 then .err (i + many m w - 1) else .nums (cutN (un ((row.drop i).take (many m w))) w m) (i + many m w)
def rdRaw (row : List Nat) (i m : Nat) : Res := if row.length < i + m then .err row.length else .bytes ((row.drop i).take m) (i + m)
def rd (row : List Nat) (i : Nat) : Wr → Res
  | .whole _ => rdWhole row i
  | .signs _ => rdSigns row i
  | .bits ns w => rdBits row i ns.length w
  | .raw bs => rdRaw row i bs.length
theorem low_part {U a b w : Nat} (h : b + w ≤ a) : U % 2 ^ a / 2 ^ b % 2 ^ w = U / 2 ^ b % 2 ^ w := by
  have e : 2 ^ a = 2 ^ b * 2 ^ (a - b) := by rw [← Nat.pow_add]; congr 1; omega
  rw [e, Nat.mod_mul_right_div_self, Nat.mod_mod_of_dvd]
  exact Nat.pow_dvd_pow 2 (by omega)
theorem low_next {U k b m : Nat} (h : m ≤ 8 * k) (hb : U / 2 ^ (8 * k) % 256 = b) : U % 2 ^ (8 * (k + 1)) / 2 ^ m = U % 2 ^ (8 * k) / 2 ^ m ||| b <<< (8 * k - m) := by
  have e1 : U % 2 ^ (8 * (k + 1)) = U % 2 ^ (8 * k) + 2 ^ (8 * k) * b := by
    have : 2 ^ (8 * (k + 1)) = 2 ^ (8 * k) * 256 := by rw [Nat.mul_succ, Nat.pow_add]
    rw [this, Nat.mod_mul, hb]
  have e2 : 2 ^ (8 * k) = 2 ^ m * 2 ^ (8 * k - m) := by rw [← Nat.pow_add]; congr 1; omega
  have hlt : U % 2 ^ (8 * k) / 2 ^ m < 2 ^ (8 * k - m) := by
    refine Nat.div_lt_of_lt_mul ?_
    rw [← e2]
    exact Nat.mod_lt _ (Nat.pow_pos (by decide))
  rw [or_shl hlt, e1]
  have e3 : 2 ^ (8 * k) * b = 2 ^ m * (2 ^ (8 * k - m) * b) := by rw [e2, Nat.mul_assoc]
  rw [e3, Nat.add_mul_div_left _ _ (Nat.pow_pos (by decide))]
theorem un_at {l : List Nat} {k b : Nat} (h : ∀ b ∈ l, b < 256) (hk : l[k]? = some b) : un l / 2 ^ (8 * k) % 256 = b := by
  have e := le_un h
  have hl := (List.getElem?_eq_some_iff.mp hk).1
  have e2 := le_at (v := un l) hl
  rw [e, hk] at e2
  rw [← p256]
  exact (Option.some.inj e2).symm
end Rb
namespace Wq
open PySem PySem.Spec PyProof.Rows L2
open Rb (wh le un val Bp Wr rwa fb rdWhole rdSigns rdBits rdRaw rd Res many cutN)
def spRR (C CE : Addr) : Sp := fun vs H Q E => ∃ (p q : Addr) (row : List Nat) (i m : Nat), vs = [.ref p, nI m] ∧ RAt C H p q row i ∧ i ≤ row.length ∧ row.length ≤ 100000 ∧
  (∀ bs a l H', rdRaw row i m = .bytes bs a → But p H H' → RAt C H' p q row a → H' l = some (.tup (bs.map nI)) → Q (.ref l) H') ∧ (∀ e, rdRaw row i m = .err e → ∀ d H', Err H H' d e → E (.ref CE) (some d) H')
def spRS (C CE : Addr) : Sp := fun vs H Q E => ∃ (p q : Addr) (row : List Nat) (i : Nat), vs = [.ref p] ∧ RAt C H p q row i ∧ i ≤ row.length ∧ row.length ≤ 100000 ∧ (∀ b ∈ row, b < 256) ∧
  (∀ t a H', rdSigns row i = .text t a → But p H H' → RAt C H' p q row a → Q (.str (txt t)) H') ∧ (∀ e, rdSigns row i = .err e → ∀ d H', Err H H' d e → E (.ref CE) (some d) H')
def spRN (C CE : Addr) : Sp := fun vs H Q E => ∃ (p q : Addr) (row : List Nat) (i m w : Nat), vs = [.ref p, nI m, nI w, nI (i + many m w)] ∧ RAt C H p q row i ∧ i + many m w ≤ row.length ∧ row.length ≤ 100000 ∧ (∀ b ∈ row, b < 256) ∧ m ≤ 1000 ∧ w ≤ 64 ∧
  (un ((row.drop i).take (many m w)) / 2 ^ (w * m) = 0 → ∀ l H', H l = none → Same H H' → H' l = some (.lst ((cutN (un ((row.drop i).take (many m w))) w m).map nI)) → Q (.ref l) H') ∧
  (un ((row.drop i).take (many m w)) / 2 ^ (w * m) > 0 → ∀ d H', Err H H' d (i + many m w - 1) → E (.ref CE) (some d) H')
def spRT (C CE : Addr) : Sp := fun vs H Q E => ∃ (p q : Addr) (row : List Nat) (i m w : Nat), vs = [.ref p, nI m, nI w] ∧ RAt C H p q row i ∧ i ≤ row.length ∧ row.length ≤ 100000 ∧ (∀ b ∈ row, b < 256) ∧ m ≤ 1000 ∧ w ≤ 64 ∧
  (∀ ns a l H', rdBits row i m w = .nums ns a → But p H H' → RAt C H' p q row a → H' l = some (.lst (ns.map nI)) → Q (.ref l) H') ∧ (∀ e, rdBits row i m w = .err e → ∀ d H', Err H H' d e → E (.ref CE) (some d) H')
section
variable {P : Program} {w : World} {K : PySem.W.Frag} {mg : Str → Option Value} {base : Heap} {C CE fI : Addr}
theorem cutV_nat (row : List Nat) (i m : Nat) (h : i + m ≤ row.length) : cutV (row.map nI) (some ((i : Nat) : Int)) (some ((i + m : Nat) : Int)) = ((row.drop i).take m).map nI := by
  unfold cutV
  rw [HT.sIx_nat, HT.sIx_nat, List.length_map, Nat.min_eq_left (by omega), Nat.min_eq_left (by omega), Nat.add_sub_cancel_left, ← List.map_drop, ← List.map_take]
/-- a slice of the row, which may be the whole of it -/
theorem slA_row {H : Hp} {q : Addr} {row : List Nat} {i m : Nat} {Q : VK} (hq : H q = some (.tup (row.map nI))) (h : i + m ≤ row.length)
    (k : ∀ l H', Same H H' → H' l = some (.tup (((row.drop i).take m).map nI)) → Q (.ref l) H') : rSlA K (.ref q) (some ((i : Nat) : Int)) (some ((i + m : Nat) : Int)) H Q := by
  refine ⟨q, _, rfl, .inl (.inl hq), fun hw => ?_, fun _ l hl => ?_⟩
  · rw [HT.sIx_nat, HT.sIx_nat, List.length_map, Nat.min_eq_left (by omega), Nat.min_eq_left (by omega)] at hw
    refine k q H (Same.refl H) ?_
    have e1 : i = 0 := hw.1
    have e2 : i + m = row.length := hw.2
    rw [hq, e1, List.drop_zero, List.take_of_length_le (by omega)]
  · rw [cutV_nat row i m h]
    exact k l _ (Same.new hl) upd_same
theorem ok_RR {f fG : Addr} {fd fdI fdG : FuncData} (F : Fun K "raw" "RowReader.raw" sRR f fd) (T : TxtR K mg C) (TT : Txt K mg) (TE : TxtE K mg CE fI) (GI : FnOk P w K mg base CX0 1 fI fdI ["self", "place"] (spBI CE)) (bI : Binds K fdI ["self", "place"] [])
    (MG : Meth K C "_go_to" fG) (GG : FnOk P w K mg base CX0 1 fG fdG ["self", "place"] (spRG C)) (bG : Binds K fdG ["self", "place"] []) :
    FnOk P w K mg base (L2.CX P w) 3 f fd ["self", "many"] (spRR C CE) := by
  refine F.okX scRR (fun vs H Q E h => ?_) (fun cdv A outer s H vs Q E hr h => ?_)
  · obtain ⟨p, q, row, i, m, rfl, _⟩ := h
    rfl
  · obtain ⟨p, q, row, i, m, rfl, R, hi, hlr, k1, k2⟩ := h
    obtain ⟨dx, hp⟩ := R.ob
    refine ⟨_, pss_cons (ps_set (i := 2) scRR.nd rfl (Or.inl rfl) (pe_op nn_add (pe_fld (pv 0) rfl) (pv 1)))
      (pss_cons (ps_if (pt_cmpR op_gt (pv 2) (pe_callB call_len_seq (by rfl) (by exact TT.len) PySem.boot_len (pa_cons (pe_fld (pv 0) rfl) pa_nil)) (nomark _))
      (pss_one (ps_raise rfl (takes_of rfl rfl rfl rfl) (pmk_oex TE.ox TE.iC TE.tI GI hr bI .nil pass0 rfl (by exact TE.gC) (by exact (pa_cons (pe_callB call_len_seq (by rfl) (by exact TT.len) PySem.boot_len (pa_cons (pe_fld (pv 0) rfl) pa_nil)) pa_nil)))))
      pss_nil)
      (pss_cons (ps_set (i := 3) scRR.nd rfl (Or.inl rfl) (pe_slice sl_tupA (pe_fld (pv 0) rfl) (po_some (pe_fld (pv 0) rfl)) (po_some (pv 2))))
      (pss_cons (ps_expr (pe_meth (pv 0) T.cl MG GG (hr.mono (by decide)) bG .nil pass0 (pa_cons (pv 2) pa_nil)))
      (pss_one (ps_ret (pv 3)))))), ?_⟩
    have hrow : SqT K H q (row.map nI) := .inl (.inl R.tp)
    refine ⟨_, rfl, p, C, dx, _, _, rfl, hp, T.cl, T.nA, rfl, _, rfl, i, m, rfl, rfl, trivial, ?_⟩
    refine ⟨_, rfl, _, rfl, p, C, dx, _, _, rfl, hp, T.cl, T.nR, rfl, q, _, rfl, .inr hrow, _, _, rfl, rfl, _, rfl, ?_⟩
    refine ite2 (fun hc => ?_) (fun hc => ?_)
    · have h2 : ((row.length : Nat) : Int) < ((i + m : Nat) : Int) := by
        have := of_decide_eq_true hc
        rw [List.length_map] at this
        exact this
      have hc : row.length < i + m := by omega
      have e0 : rdRaw row i m = .err row.length := if_pos hc
      refine ⟨_, rfl, p, C, dx, _, _, rfl, hp, T.cl, T.nR, rfl, q, _, rfl, .inr hrow, (by show 1 ≤ 1000; decide), fun a ha => ⟨a, _, rfl, upd_same, fun d hd hda => ⟨rfl, d, _, upd_same, by rw [upd_ne hda, upd_same], by rw [upd_ne hda] at hd; exact hd, ?_⟩⟩⟩
      have e := Err.out (k2 _ e0) ha hd hda
      rw [← List.length_map (f := nI) (as := row)] at e
      exact e
    · have hc : ¬ row.length < i + m := by
        intro z
        refine hc (decide_eq_true ?_)
        rw [List.length_map]
        show ((row.length : Nat) : Int) < ((i + m : Nat) : Int)
        omega
      have e0 : rdRaw row i m = .bytes ((row.drop i).take m) (i + m) := if_neg hc
      refine ⟨_, rfl, p, C, dx, _, _, rfl, hp, T.cl, T.nR, rfl, ?_⟩
      refine ⟨_, rfl, p, C, dx, _, _, rfl, hp, T.cl, T.nA, rfl, _, rfl, _, rfl, _, rfl, ?_⟩
      refine slA_row R.tp (by omega) fun l H1 s1 hl => ?_
      have R1 := R.same s1
      refine ⟨_, rfl, p, dx, _, rfl, s1 _ _ hp, by rfl, _, rfl, p, q, row, i, i + m, rfl, R1, fun H' B R' => ?_⟩
      have nlp : l ≠ p := ne_of hl (s1 _ _ hp) (by intro z; cases z)
      exact ⟨_, rfl, k1 _ _ l H' e0 ((But.same s1).trans B) R' (B _ _ hl nlp)⟩
theorem flat_rep (m : Nat) (v : V) : (List.replicate m [v]).flatten = List.replicate m v := by
  induction m with
  | zero => rfl
  | succ n ih =>
    rw [List.replicate_succ, List.flatten_cons, ih]
    rfl
theorem cutN_snoc (U w m : Nat) : cutN U w (m + 1) = cutN U w m ++ [U / 2 ^ (w * m) % 2 ^ w] := by
  unfold cutN
  rw [List.range_succ, List.map_append]
  rfl
theorem cutN_len (U w m : Nat) : (cutN U w m).length = m := by simp [cutN]
theorem ok_RN {f : Addr} {fd fdI : FuncData} (F : Fun K "_numbers" "RowReader._numbers" sRN f fd) (T : TxtR K mg C) (TT : Txt K mg) (TE : TxtE K mg CE fI) (GI : FnOk P w K mg base CX0 1 fI fdI ["self", "place"] (spBI CE)) (bI : Binds K fdI ["self", "place"] []) :
    FnOk P w K mg base (L2.CX P w) 3 f fd ["self", "many", "width", "end"] (spRN C CE) := by
  refine F.okX scRN (fun vs H Q E h => ?_) (fun cdv A outer s H vs Q E hr h => ?_)
  · obtain ⟨p, q, row, i, m, w', rfl, _⟩ := h
    rfl
  · obtain ⟨p, q, row, i, m, w', rfl, R, hend, hlr, hb8, hm, hw, k1, k2⟩ := h
    obtain ⟨dx, hp⟩ := R.ob
    refine ⟨_, pss_cons (ps_if (pt_cmpR op_eq (pv 2) pe_int (nomark _))
(pss_one (ps_ret (pe_op op_rep (pe_lst (pa_cons pe_int pa_nil)) (pv 1))))
pss_nil)
(pss_cons (ps_set (i := 4) scRN.nd rfl (Or.inl rfl) (pe_lst pa_nil))
(pss_cons (ps_set (i := 5) scRN.nd rfl (Or.inl rfl) pe_int)
(pss_cons (ps_set (i := 6) scRN.nd rfl (Or.inl rfl) pe_int)
(pss_cons (ps_for (passes_of rfl) rfl (pi_range2 rfl (by exact TT.range) (pa_cons (pe_fld (pv 0) rfl) (pa_cons (pv 3) pa_nil))) (pg_name (i := 7) scRN.nd rfl (Or.inl rfl))
(pss_cons (ps_aug (i := 5) scRN.nd rfl (Or.inl rfl) (pe_op nn_shl (pe_ix ix_tup (pe_fld (pv 0) rfl) (pv 7) (fun _ _ => rfl)) (pv 6)) ni_or)
(pss_cons (ps_aug (i := 6) scRN.nd rfl (Or.inl rfl) pe_int ni_add)
(pss_one (ps_while (passes_of rfl) (PW.pt (pw_and (pt_cmpR op_ge (pv 6) (pv 2) (nomark _)) (pw_and1 (pt_cmpR op_lt (pe_callB call_len_seq (by rfl) (by exact TT.len) PySem.boot_len (pa_cons (pv 4) pa_nil)) (pv 1) (nomark _)))))
(pss_cons (ps_expr (pe_bm PySem.F.plainAttrs_list PySem.F.slot_list_append PySem.F.type_list_append mt_append (pv 4) (pa_cons (pe_op nn_and (pv 5) (pe_op op_sub (pe_op nn_shl pe_int (pv 2)) pe_int)) pa_nil)))
(pss_cons (ps_aug (i := 5) scRN.nd rfl (Or.inl rfl) (pv 2) ni_shr)
(pss_one (ps_aug (i := 6) scRN.nd rfl (Or.inl rfl) (pv 2) ni_sub)))))))))
(pss_cons (ps_if (pt_cmpR op_gt (pv 5) pe_int (nomark _))
(pss_one (ps_raise rfl (takes_of rfl rfl rfl rfl) (pmk_oex TE.ox TE.iC TE.tI GI hr bI .nil pass0 rfl (by exact TE.gC) (by exact (pa_cons (pe_op op_sub (pv 3) pe_int) pa_nil)))))
pss_nil)
(pss_one (ps_ret (pv 4)))))))), ?_⟩
    have hrow : SqT K H q (row.map nI) := .inl (.inl R.tp)
    have hbl : ∀ b ∈ (row.drop i).take (many m w'), b < 256 := fun b hb => hb8 b (List.mem_of_mem_drop (List.mem_of_mem_take hb))
    have hll : ((row.drop i).take (many m w')).length = many m w' := by rw [List.length_take, List.length_drop]; omega
    obtain ⟨U, eU⟩ : ∃ U, U = un ((row.drop i).take (many m w')) := ⟨_, rfl⟩
    have hUlt : U < 2 ^ (8 * many m w') := by
      have := Rb.un_lt hbl
      rw [hll, Rb.p256, ← eU] at this
      exact this
    have hbyte : ∀ k, k < many m w' → ∃ b, row[i + k]? = some b ∧ U / 2 ^ (8 * k) % 256 = b ∧ b < 256 := by
      intro k hk
      have hki : i + k < row.length := by omega
      refine ⟨row[i + k], List.getElem?_eq_getElem hki, ?_, hb8 _ (List.getElem_mem hki)⟩
      rw [eU]
      refine Rb.un_at hbl ?_
      rw [List.getElem?_take, if_pos hk, List.getElem?_drop, List.getElem?_eq_getElem hki]
    rw [← eU] at k1 k2
    refine ⟨_, rfl, rfl, _, rfl, ?_⟩
    refine ite2 (fun hc => ?_) (fun hc => ?_)
    · -- width 0
      have h0 : w' = 0 := Int.ofNat_inj.mp (V.int.inj (of_decide_eq_true hc))
      subst h0
      have hU0 : U = 0 := by
        have e : many m 0 = 0 := by unfold many; rw [Nat.mul_zero]
        rw [e, Nat.mul_zero, Nat.pow_zero] at hUlt
        omega
      refine ⟨by show 1 ≤ sizeLine; decide, fun l hl => ⟨_, rfl, l, _, _, rfl, rfl, upd_same, by omega, by omega, ?_, fun l' hl' => ?_⟩⟩
      · show 1 * (m : Int).toNat ≤ sizeLine
        rw [sizeLine_eq]
        omega
      · have s1 := Same.new (o := .lst [V.int 0]) hl
        refine k1 (by rw [hU0]; exact Nat.zero_div _) l' _ (s1.free hl') (s1.trans (Same.new hl')) ?_
        rw [upd_same, Int.toNat_natCast]
        refine congrArg (fun l => some (HO.lst l)) ?_
        apply List.ext_getElem?
        intro j
        unfold cutN
        rw [List.map_map]
        by_cases hj : j < m
        · have e1 : ((List.replicate m [V.int 0]).flatten)[j]? = some (V.int 0) := by
            rw [flat_rep, List.getElem?_replicate, if_pos hj]
          rw [e1, List.getElem?_map, List.getElem?_range hj]
          show _ = some (nI (U / 2 ^ (0 * j) % 2 ^ 0))
          rw [Nat.pow_zero, Nat.mod_one]
          rfl
        · rw [List.getElem?_eq_none (by simp; omega), List.getElem?_eq_none (by simp; omega)]
    have hw0 : 0 < w' := by
      rcases Nat.eq_zero_or_pos w' with h | h
      · exact absurd (decide_eq_true (by rw [h]; rfl)) hc
      · exact h
    refine ⟨Nat.zero_le _, fun l hl => ?_⟩
    have s0 := Same.new (o := .lst []) hl
    have hmw : w' * m ≤ 8 * many m w' := by
      unfold many
      rw [Nat.mul_comm]
      omega
    have hp0 := s0 _ _ hp
    have eti : (((i + many m w' : Nat) : Int) - (i : Int)).toNat = many m w' := by omega
    have hm10 : 8 * many m w' ≤ 100000 * 8 := by omega
    refine ⟨_, rfl, p, C, dx, _, _, rfl, hp0, T.cl, T.nA, rfl, _, rfl, _, _, rfl, ⟨by omega, by omega, by omega, by omega⟩, for_range (fun k σ G => ∃ (mm : Nat) (x7 : Option V), σ = [some (.ref p), some (nI m), some (nI w'), some (nI (i + many m w')), some (.ref l), some (nI (U % 2 ^ (8 * k) / 2 ^ (w' * mm))), some (nI (8 * k - w' * mm)), x7] ∧ Same H G ∧ G l = some (.lst ((cutN U w' mm).map nI)) ∧ mm ≤ m ∧ w' * mm ≤ 8 * k ∧ (8 * k - w' * mm < w' ∨ mm = m))
      ⟨0, none, ?_, s0, upd_same, Nat.zero_le _, by omega, .inl (by omega)⟩ ?_ ?_⟩
    · rw [Nat.mul_zero, Nat.mul_zero, Nat.pow_zero, Nat.mod_one]
      rfl
    · rintro k σ G hk ⟨mm, x7, rfl, sm, hl2, hmm, hwm, _⟩
      have hk : k < many m w' := by omega
      obtain ⟨b, hbk, hbU, hb256⟩ := hbyte k hk
      have hpG := sm _ _ hp
      have hrG : SqT K G q (row.map nI) := .inl (.inl (sm _ _ R.tp))
      have hat : atI (row.map nI) ((i : Int) + (k : Int)) = some (nI b) := by
        have e : (i : Int) + (k : Int) = ((i + k : Nat) : Int) := by omega
        rw [e]
        exact atI_nat (by rw [List.getElem?_map, hbk]; rfl)
      refine ⟨_, rfl, _, rfl, p, C, dx, _, _, rfl, hpG, T.cl, T.nR, rfl, _, rfl, q, _, _, nI b, rfl, rfl, hrG, hat, _, rfl, b, 8 * k - w' * mm, rfl, rfl, ⟨by omega, by omega⟩, _, _, rfl, rfl, trivial, ?_⟩
      refine ⟨_, rfl, 8 * k - w' * mm, 8, rfl, rfl, trivial, ?_⟩
      refine while_by (fun σ G => ∃ (mm : Nat), σ = [some (.ref p), some (nI m), some (nI w'), some (nI (i + many m w')), some (.ref l), some (nI (U % 2 ^ (8 * (k + 1)) / 2 ^ (w' * mm))), some (nI (8 * (k + 1) - w' * mm)), some (.int ((i : Int) + (k : Int)))] ∧ Same H G ∧ G l = some (.lst ((cutN U w' mm).map nI)) ∧ mm ≤ m ∧ w' * mm ≤ 8 * (k + 1))
        (fun σ G => match σ with | [_, _, _, _, _, _, some (.int y), _] => y.toNat | _ => 0)
        ⟨mm, ?_, sm, hl2, hmm, by omega⟩ ?_ ?_
      · have e1 := Rb.low_next (m := w' * mm) hwm hbU
        have e2 : 8 * k - w' * mm + 8 = 8 * (k + 1) - w' * mm := by omega
        rw [e1, ← e2]
        rfl
      · rintro σ G2 ⟨mm, rfl, sm2, hl3, hmm2, hwm2⟩
        refine ⟨_, rfl, _, rfl, _, _, rfl, rfl, _, rfl, ?_⟩
        refine ite2 (fun hc => ?_) (fun hc => ?_)
        · have hc : w' ≤ 8 * (k + 1) - w' * mm := by have := of_decide_eq_true hc; omega
          refine ⟨_, rfl, l, _, rfl, .inl (.inl (.inl hl3)), _, rfl, _, _, rfl, rfl, _, rfl, ?_⟩
          refine ite2 (fun hd => ?_) (fun hd => ?_)
          · have hd : mm < m := by
              have := of_decide_eq_true hd
              rw [List.length_map, cutN_len] at this
              omega
            have hms : w' * (mm + 1) ≤ 8 * (k + 1) := by rw [Nat.mul_succ]; omega
            have emask : V.int (((1 <<< w' : Nat) : Int) - 1) = nI (2 ^ w' - 1) := by
              have h1 : 1 <<< w' = 2 ^ w' := by rw [Nat.shiftLeft_eq, Nat.one_mul]
              have h2 : 0 < 2 ^ w' := Nat.pow_pos (by decide)
              rw [h1]
              exact congrArg V.int (by omega)
            refine ⟨_, rfl, .inl ⟨rfl, _, .inl (.inl hl3)⟩, _, rfl, _, rfl, 1, w', rfl, rfl, ⟨by decide, by omega⟩, _, _, rfl, rfl, _, 2 ^ w' - 1, rfl, emask, trivial, l, _, _, rfl, rfl, hl3, ?_, ?_⟩
            · rw [List.length_map, cutN_len]
              exact small1000 (by omega)
            refine ⟨_, rfl, _, rfl, _, w', rfl, rfl, trivial, _, rfl, _, rfl, 8 * (k + 1) - w' * mm, w', rfl, rfl, hc, ?_⟩
            refine ⟨⟨mm + 1, ?_, Same.put sm2 hl, ?_, hd, hms⟩, ?_⟩
            · have e1 : (U % 2 ^ (8 * (k + 1)) / 2 ^ (w' * mm)) >>> w' = U % 2 ^ (8 * (k + 1)) / 2 ^ (w' * (mm + 1)) := by
                rw [Nat.shiftRight_eq_div_pow, Nat.div_div_eq_div_mul, ← Nat.pow_add]
                rfl
              have h9 : w' * (mm + 1) = w' * mm + w' := Nat.mul_succ _ _
              have e2 : 8 * (k + 1) - w' * mm - w' = 8 * (k + 1) - w' * (mm + 1) := by omega
              rw [← e1, ← e2]
              rfl
            · have e3 : (U % 2 ^ (8 * (k + 1)) / 2 ^ (w' * mm)) &&& (2 ^ w' - 1) = U / 2 ^ (w' * mm) % 2 ^ w' := by
                rw [Nat.and_two_pow_sub_one_eq_mod, Rb.low_part (by omega)]
              rw [upd_same, cutN_snoc, List.map_append, ← e3]
              rfl
            · show ((8 * (k + 1) - w' * mm - w' : Nat) : Int).toNat < ((8 * (k + 1) - w' * mm : Nat) : Int).toNat
              omega
          · have hd : mm = m := by
              have : ¬ ((((cutN U w' mm).map nI).length : Nat) : Int) < (m : Int) := fun z => hd (decide_eq_true z)
              rw [List.length_map, cutN_len] at this
              omega
            exact ⟨mm, _, rfl, sm2, hl3, hmm2, hwm2, .inr hd⟩
        · have hc : 8 * (k + 1) - w' * mm < w' := by
            have : ¬ ((w' : Nat) : Int) ≤ ((8 * (k + 1) - w' * mm : Nat) : Int) := fun z => hc (decide_eq_true z)
            omega
          exact iteF ⟨mm, _, rfl, sm2, hl3, hmm2, hwm2, .inl hc⟩
      · intro σ H' Q' Q'' hq h
        obtain ⟨v, h1, u, h2, i, j, e1, e2, k', e3, h⟩ := h
        refine ⟨v, h1, u, h2, i, j, e1, e2, k', e3, ?_⟩
        by_cases hk' : k' = true
        · rw [if_pos hk'] at h ⊢
          obtain ⟨a1, a2, a3, a4, a5, a6, a7, a8, a9, b1, b2, b3, b4, b5, h⟩ := h
          exact ⟨a1, a2, a3, a4, a5, a6, a7, a8, a9, b1, b2, b3, b4, b5, hq _ _ h⟩
        · rw [if_neg hk'] at h ⊢
          exact hq _ _ h
    · rintro σ G ⟨mm, x7, rfl, sm, hl2, hmm, hwm, hdis⟩
      rw [eti] at hwm hdis
      have emm : mm = m := by
        rcases hdis with h | h
        · by_cases hlt : mm < m
          · have h3 : w' * (mm + 1) ≤ w' * m := Nat.mul_le_mul_left _ hlt
            rw [Nat.mul_succ] at h3
            omega
          · omega
        · exact h
      subst emm
      have eH : U % 2 ^ (8 * (((i + many mm w' : Nat) : Int) - (i : Int)).toNat) / 2 ^ (w' * mm) = U / 2 ^ (w' * mm) := by rw [eti, Nat.mod_eq_of_lt hUlt]
      rw [eH]
      refine ⟨_, rfl, _, _, rfl, rfl, _, rfl, ?_⟩
      refine ite2 (fun hc => ?_) (fun hc => ?_)
      · have hc : U / 2 ^ (w' * mm) > 0 := by
          have := of_decide_eq_true hc
          generalize U / 2 ^ (w' * mm) = Z at *
          omega
        have hpos : 0 < many mm w' := by
          rcases Nat.eq_zero_or_pos (many mm w') with h | h
          · rw [h, Nat.mul_zero, Nat.pow_zero] at hUlt
            have : U = 0 := by omega
            rw [this, Nat.zero_div] at hc
            omega
          · exact h
        have ev : V.int (((i + many mm w' : Nat) : Int) - 1) = nI (i + many mm w' - 1) := congrArg V.int (by omega)
        refine ⟨_, rfl, _, _, rfl, rfl, (by show 1 ≤ 1000; decide), fun a ha => ⟨a, _, rfl, upd_same, fun d hd hda => ⟨rfl, d, _, upd_same, by rw [upd_ne hda, upd_same], by rw [upd_ne hda] at hd; exact hd, ?_⟩⟩⟩
        have e := Err.out (fun d H' he => k2 hc d H' ⟨sm.trans he.1, sm.free he.2.1, he.2.2⟩) ha hd hda
        rw [← ev] at e
        exact e
      · have hc : U / 2 ^ (w' * mm) = 0 := by
          have : ¬ (0 : Int) < ((U / 2 ^ (w' * mm) : Nat) : Int) := fun z => hc (decide_eq_true z)
          generalize U / 2 ^ (w' * mm) = Z at *
          omega
        exact ⟨_, rfl, k1 hc l G hl sm hl2⟩
end
end Wq

set_option Elab.async false
set_option linter.all false
set_option maxRecDepth 100000
set_option maxHeartbeats 2000000
set_option exponentiation.threshold 5000
namespace Wq
open PySem PySem.Spec PyProof.Rows L2
open Rb (wh le un val Bp Wr rwa fb rdWhole rdSigns rdBits rdRaw rd Res many cutN)
section
variable {P : Program} {w : World} {K : PySem.W.Frag} {mg : Str → Option Value} {base : Heap} {C CE fI : Addr}
theorem ok_RT {f fN fG : Addr} {fd fdI fdN fdG : FuncData} (F : Fun K "bits" "RowReader.bits" sRT f fd) (T : TxtR K mg C) (TT : Txt K mg) (TE : TxtE K mg CE fI) (GI : FnOk P w K mg base CX0 1 fI fdI ["self", "place"] (spBI CE)) (bI : Binds K fdI ["self", "place"] [])
    (MN : Meth K C "_numbers" fN) (GN : FnOk P w K mg base (L2.CX P w) 3 fN fdN ["self", "many", "width", "end"] (spRN C CE)) (bN : Binds K fdN ["self", "many", "width", "end"] [])
    (MG : Meth K C "_go_to" fG) (GG : FnOk P w K mg base CX0 1 fG fdG ["self", "place"] (spRG C)) (bG : Binds K fdG ["self", "place"] []) :
    FnOk P w K mg base (L2.CX P w) 4 f fd ["self", "many", "width"] (spRT C CE) := by
  refine F.okX scRT (fun vs H Q E h => ?_) (fun cdv A outer s H vs Q E hr h => ?_)
  · obtain ⟨p, q, row, i, m, w', rfl, _⟩ := h
    rfl
  · obtain ⟨p, q, row, i, m, w', rfl, R, hi, hlr, hb8, hm, hw, k1, k2⟩ := h
    obtain ⟨dx, hp⟩ := R.ob
    refine ⟨_, pss_cons (ps_set (i := 3) scRT.nd rfl (Or.inl rfl) (pe_op op_add (pe_fld (pv 0) rfl) (pe_op op_fdiv (pe_op op_add (pe_op op_mul (pv 1) (pv 2)) pe_int) pe_int)))
(pss_cons (ps_if (pt_cmpR op_gt (pv 3) (pe_callB call_len_seq (by rfl) (by exact TT.len) PySem.boot_len (pa_cons (pe_fld (pv 0) rfl) pa_nil)) (nomark _))
(pss_one (ps_raise rfl (takes_of rfl rfl rfl rfl) (pmk_oex TE.ox TE.iC TE.tI GI (hr.mono (by decide)) bI .nil pass0 rfl (by exact TE.gC) (by exact (pa_cons (pe_callB call_len_seq (by rfl) (by exact TT.len) PySem.boot_len (pa_cons (pe_fld (pv 0) rfl) pa_nil)) pa_nil)))))
pss_nil)
(pss_cons (ps_set (i := 4) scRT.nd rfl (Or.inl rfl) (pe_meth (pv 0) T.cl MN GN hr bN .nil (passes_call (takes_of rfl rfl rfl rfl) (fun _ _ _ _ h => h)) (pa_cons (pv 1) (pa_cons (pv 2) (pa_cons (pv 3) pa_nil)))))
(pss_cons (ps_expr (pe_meth (pv 0) T.cl MG GG (hr.mono (by decide)) bG .nil pass0 (pa_cons (pv 3) pa_nil)))
(pss_one (ps_ret (pv 4)))))), ?_⟩
    have hrow : SqT K H q (row.map nI) := .inl (.inl R.tp)
    have hmw : m * w' ≤ 64000 := Nat.le_trans (Nat.mul_le_mul hm hw) (by decide)
    refine ⟨_, rfl, p, C, dx, _, _, rfl, hp, T.cl, T.nA, rfl, _, rfl, _, rfl, _, _, rfl, rfl, .inl ⟨by omega, by omega⟩, _, _, rfl, rfl, _, _, rfl, rfl, ⟨by decide, by decide⟩, _, _, rfl, rfl, ?_⟩
    have ee : V.int ((i : Int) + ((m : Int) * (w' : Int) + 7) / 8) = nI (i + many m w') := by
      have e1 : (m : Int) * (w' : Int) = ((m * w' : Nat) : Int) := (Int.natCast_mul m w').symm
      unfold many
      rw [e1]
      exact congrArg V.int (by omega)
    have go : ∀ (R : V → Prop), R (nI (i + many m w')) → R (V.int ((i : Int) + ((m : Int) * (w' : Int) + 7) / 8)) := fun R h => by rw [ee]; exact h
    refine go (fun v => gName 3 v _ _ _) ?_
    refine ⟨_, rfl, _, rfl, p, C, dx, _, _, rfl, hp, T.cl, T.nR, rfl, q, _, rfl, .inr hrow, _, _, rfl, rfl, _, rfl, ?_⟩
    refine ite2 (fun hc => ?_) (fun hc => ?_)
    · have h2 : ((row.length : Nat) : Int) < ((i + many m w' : Nat) : Int) := by
        have := of_decide_eq_true hc
        rw [List.length_map] at this
        exact this
      have hc : row.length < i + many m w' := by omega
      have e0 : rdBits row i m w' = .err row.length := if_pos hc
      refine ⟨_, rfl, p, C, dx, _, _, rfl, hp, T.cl, T.nR, rfl, q, _, rfl, .inr hrow, (by show 1 ≤ 1000; decide), fun a ha => ⟨a, _, rfl, upd_same, fun d hd hda => ⟨rfl, d, _, upd_same, by rw [upd_ne hda, upd_same], by rw [upd_ne hda] at hd; exact hd, ?_⟩⟩⟩
      have e := Err.out (k2 _ e0) ha hd hda
      rw [← List.length_map (f := nI) (as := row)] at e
      exact e
    · have hc : ¬ row.length < i + many m w' := by
        intro z
        refine hc (decide_eq_true ?_)
        rw [List.length_map]
        show ((row.length : Nat) : Int) < ((i + many m w' : Nat) : Int)
        omega
      have e0 : rdBits row i m w' = if un ((row.drop i).take (many m w')) / 2 ^ (w' * m) > 0 then .err (i + many m w' - 1) else .nums (cutN (un ((row.drop i).take (many m w'))) w' m) (i + many m w') := if_neg hc
      refine ⟨_, rfl, p, dx, _, rfl, hp, by rfl, _, rfl, _, rfl, _, rfl, p, q, row, i, m, w', rfl, R, by omega, hlr, hb8, hm, hw, fun hz l H1 hl s1 hl1 => ?_, fun hz d H' he => ?_⟩
      · rw [if_neg (by omega)] at e0
        have R1 := R.same s1
        refine ⟨_, rfl, p, dx, _, rfl, s1 _ _ hp, by rfl, _, rfl, p, q, row, i, i + many m w', rfl, R1, fun H' B R' => ?_⟩
        have nlp : l ≠ p := ne_of hl1 (s1 _ _ hp) (by intro z; cases z)
        exact ⟨_, rfl, k1 _ _ l H' e0 ((But.same s1).trans B) R' (B _ _ hl1 nlp)⟩
      · rw [if_pos hz] at e0
        exact k2 _ e0 d H' he
theorem SG_95 : SG.length = 95 := by decide +kernel
theorem ok_RS {f fF fG : Addr} {fd fdI fdF fdG : FuncData} (F : Fun K "signs" "RowReader.signs" sRS f fd) (T : TxtR K mg C) (TT : Txt K mg) (TE : TxtE K mg CE fI) (GI : FnOk P w K mg base CX0 1 fI fdI ["self", "place"] (spBI CE)) (bI : Binds K fdI ["self", "place"] [])
    (MF : Meth K C "_whole_from" fF) (GF : FnOk P w K mg base (L2.CX P w) 4 fF fdF ["self", "place"] (spRF C CE)) (bF : Binds K fdF ["self", "place"] [])
    (MG : Meth K C "_go_to" fG) (GG : FnOk P w K mg base CX0 1 fG fdG ["self", "place"] (spRG C)) (bG : Binds K fdG ["self", "place"] []) :
    FnOk P w K mg base (L2.CX P w) 5 f fd ["self"] (spRS C CE) := by
  refine F.okX scRS (fun vs H Q E h => ?_) (fun cdv A outer s H vs Q E hr h => ?_)
  · obtain ⟨p, q, row, i, rfl, _⟩ := h
    rfl
  · obtain ⟨p, q, row, i, rfl, R, hi, hlr, hb8, k1, k2⟩ := h
    obtain ⟨dx, hp⟩ := R.ob
    obtain ⟨tk, sg⟩ := T.sg
    refine ⟨_, pss_cons (ps_asg (pe_meth (pv 0) T.cl MF GF hr bF .nil (passes_call (takes_of rfl rfl rfl rfl) (fun _ _ _ _ h => h)) (pa_cons (pe_fld (pv 0) rfl) pa_nil)) (pg_tup (by rfl) (pgs_cons (pg_name (i := 1) scRS.nd rfl (Or.inl rfl)) (pgs_cons (pg_name (i := 2) scRS.nd rfl (Or.inl rfl)) pgs_nil))))
(pss_cons (ps_set (i := 3) scRS.nd rfl (Or.inl rfl) (pe_op nn_add (pv 2) (pv 1)))
(pss_cons (ps_for (passes_of rfl) rfl (pi_range2 rfl (by exact TT.range) (pa_cons (pv 2) (pa_cons (pe_callB (call_min2 rfl) (by rfl) (by exact TT.min) (by decide +kernel) (pa_cons (pv 3) (pa_cons (pe_callB call_len_seq (by rfl) (by exact TT.len) PySem.boot_len (pa_cons (pe_fld (pv 0) rfl) pa_nil)) pa_nil))) pa_nil))) (pg_name (i := 4) scRS.nd rfl (Or.inl rfl))
(pss_one (ps_if (pt_cmpR op_ge (pe_ix ix_tup (pe_fld (pv 0) rfl) (pv 4) (fun _ _ => rfl)) (pe_callB call_len_str (by rfl) (by exact TT.len) PySem.boot_len (pa_cons (pgs (by exact sg)) pa_nil)) (nomark _))
(pss_one (ps_raise rfl (takes_of rfl rfl rfl rfl) (pmk_oex TE.ox TE.iC TE.tI GI (hr.mono (by decide)) bI .nil pass0 rfl (by exact TE.gC) (by exact (pa_cons (pv 4) pa_nil)))))
pss_nil)))
(pss_cons (ps_if (pt_cmpR op_gt (pv 3) (pe_callB call_len_seq (by rfl) (by exact TT.len) PySem.boot_len (pa_cons (pe_fld (pv 0) rfl) pa_nil)) (nomark _))
(pss_one (ps_raise rfl (takes_of rfl rfl rfl rfl) (pmk_oex TE.ox TE.iC TE.tI GI (hr.mono (by decide)) bI .nil pass0 rfl (by exact TE.gC) (by exact (pa_cons (pe_callB call_len_seq (by rfl) (by exact TT.len) PySem.boot_len (pa_cons (pe_fld (pv 0) rfl) pa_nil)) pa_nil)))))
pss_nil)
(pss_cons (ps_expr (pe_meth (pv 0) T.cl MG GG (hr.mono (by decide)) bG .nil pass0 (pa_cons (pv 3) pa_nil)))
(pss_one (ps_ret (pe_join pe_str (pe_lc (own := [("index", 5)]) (g := gName 5) (tt := tYes) (by rfl) scRS.nd (pi_tup (pe_slice sl_tupA (pe_fld (pv 0) rfl) (po_some (pv 2)) (po_some (pv 3)))) (blkOk_by (own := [("index", 5)]) (N := NRS) (sc := defScope sRS) (by decide +kernel)) (fun _ _ _ _ _ => (pg_name (i := 5) scRS.nd rfl (Or.inl rfl))) (fun _ _ _ _ _ => pts_nil) (fun _ _ _ _ _ => (pe_ix ix_str (pgs (by exact sg)) (pv 5) (fun _ _ => rfl))))))))))), ?_⟩
    refine ⟨_, rfl, p, dx, _, rfl, hp, by rfl, _, rfl, p, C, dx, _, _, rfl, hp, T.cl, T.nA, rfl, p, q, row, i, i, rfl, R, hi, hlr, hb8, fun n c e t ht => ?_, fun e he d H' hd => ?_⟩
    · have hic : i + c ≤ row.length := by
        have := Rb.rwa_ok e
        rw [List.length_drop] at this
        omega
      have s1 := Same.new (o := .tup [nI n, nI (i + c)]) ht
      have R1 := R.same s1
      have hp1 := s1 _ _ hp
      obtain ⟨l, el⟩ : ∃ l, l = (row.drop (i + c)).take n := ⟨_, rfl⟩
      have hll : l.length = min n (row.length - (i + c)) := by rw [el, List.length_take, List.length_drop]
      have hlat : ∀ k, k < l.length → ∃ b, row[i + c + k]? = some b ∧ l[k]? = some b := by
        intro k hk
        have hk2 : i + c + k < row.length := by omega
        refine ⟨row[i + c + k], List.getElem?_eq_getElem hk2, ?_⟩
        rw [el, List.getElem?_take, if_pos (by omega), List.getElem?_drop, List.getElem?_eq_getElem hk2]
      have hrd : rdSigns row i = match fb l with | some k => .err (i + c + k) | none => if row.length < i + c + n then .err row.length else .text l (i + c + n) := by
        unfold rdSigns
        rw [e, el] <;> rfl
      have hrow1 : SqT K (upd H t (.tup [nI n, nI (i + c)])) q (row.map nI) := .inl (.inl R1.tp)
      refine ⟨t, _, rfl, .inl (.inl upd_same), rfl, _, _, rfl, _, _, rfl, rfl, ?_⟩
      refine ⟨_, rfl, _, rfl, i + c, n, rfl, rfl, trivial, ?_⟩
      have em : (if (((row.map nI).length : Nat) : Int) < ((i + c + n : Nat) : Int) then (((row.map nI).length : Nat) : Int) else ((i + c + n : Nat) : Int)) = ((i + c + l.length : Nat) : Int) := by
        rw [List.length_map]
        split <;> omega
      refine ⟨_, rfl, _, rfl, _, rfl, p, C, dx, _, _, rfl, hp1, T.cl, T.nR, rfl, q, _, rfl, .inr hrow1, _, _, rfl, _, _, rfl, ?_, ?_⟩
      · show -(2 ^ 62) ≤ ((i + c : Nat) : Int) ∧ ((i + c : Nat) : Int) < 2 ^ 62 ∧ -(2 ^ 62) ≤ (if (((row.map nI).length : Nat) : Int) < ((i + c + n : Nat) : Int) then (((row.map nI).length : Nat) : Int) else ((i + c + n : Nat) : Int)) ∧ (if (((row.map nI).length : Nat) : Int) < ((i + c + n : Nat) : Int) then (((row.map nI).length : Nat) : Int) else ((i + c + n : Nat) : Int)) < 2 ^ 62
        rw [em]
        omega
      refine for_range (fun k σ G => ∃ x4 : Option V, σ = [some (.ref p), some (nI n), some (nI (i + c)), some (nI (i + c + n)), x4, none] ∧ G = upd H t (.tup [nI n, nI (i + c)]) ∧ ∀ j b, j < k → l[j]? = some b → b ≤ 94)
        ⟨none, rfl, rfl, fun j b hj => absurd hj (Nat.not_lt_zero j)⟩ ?_ ?_
      · rintro k σ G hk ⟨x4, rfl, rfl, hall⟩
        have hk : k < l.length := by
          have hk : k < ((if (((row.map nI).length : Nat) : Int) < ((i + c + n : Nat) : Int) then (((row.map nI).length : Nat) : Int) else ((i + c + n : Nat) : Int)) - ((i + c : Nat) : Int)).toNat := hk
          rw [em] at hk
          omega
        obtain ⟨b, hb1, hb2⟩ := hlat k hk
        have hat : atI (row.map nI) (((i + c : Nat) : Int) + (k : Int)) = some (nI b) := by
          have e : ((i + c : Nat) : Int) + (k : Int) = ((i + c + k : Nat) : Int) := by omega
          rw [e]
          exact atI_nat (by rw [List.getElem?_map, hb1]; rfl)
        refine ⟨_, rfl, p, C, dx, _, _, rfl, hp1, T.cl, T.nR, rfl, _, rfl, q, _, _, nI b, rfl, rfl, hrow1, hat, SG, rfl, SG_small, _, _, rfl, rfl, _, rfl, ?_⟩
        refine ite2 (fun hc => ?_) (fun hc => ?_)
        · have hc : b > 94 := by
            have := of_decide_eq_true hc
            rw [SG_95] at this
            omega
          have e0 : rdSigns row i = .err (i + c + k) := by rw [hrd, Rb.fb_some hb2 hc fun j c' hj hc' => hall j c' hj hc']
          have ev : V.int (((i + c : Nat) : Int) + (k : Int)) = nI (i + c + k) := congrArg V.int (by omega)
          refine ⟨_, rfl, (by show 1 ≤ 1000; decide), fun a ha => ⟨a, _, rfl, upd_same, fun d hd hda => ⟨rfl, d, _, upd_same, by rw [upd_ne hda, upd_same], by rw [upd_ne hda] at hd; exact hd, ?_⟩⟩⟩
          have e := Err.out (fun d H' he => k2 _ e0 d H' ⟨s1.trans he.1, s1.free he.2.1, he.2.2⟩) ha hd hda
          rw [← ev] at e
          exact e
        · have hc : b ≤ 94 := by
            have : ¬ ((SG.length : Nat) : Int) ≤ (b : Int) := fun z => hc (decide_eq_true z)
            rw [SG_95] at this
            omega
          refine ⟨_, rfl, rfl, fun j b' hj hb' => ?_⟩
          by_cases hjk : j = k
          · subst hjk
            rw [hb2] at hb'
            obtain rfl := Option.some.inj hb'
            exact hc
          · exact hall j b' (by omega) hb'
      · rintro σ G ⟨x4, rfl, rfl, hall⟩
        have en : ((if (((row.map nI).length : Nat) : Int) < ((i + c + n : Nat) : Int) then (((row.map nI).length : Nat) : Int) else ((i + c + n : Nat) : Int)) - ((i + c : Nat) : Int)).toNat = l.length := by
          rw [em]
          omega
        have hall : ∀ j b : Nat, l[j]? = some b → b ≤ 94 := by
          intro j b hj
          refine hall j b ?_ hj
          show j < ((if (((row.map nI).length : Nat) : Int) < ((i + c + n : Nat) : Int) then (((row.map nI).length : Nat) : Int) else ((i + c + n : Nat) : Int)) - ((i + c : Nat) : Int)).toNat
          rw [en]
          exact (List.getElem?_eq_some_iff.mp hj).1
        rw [Rb.fb_none hall] at hrd
        refine ⟨_, rfl, _, rfl, p, C, dx, _, _, rfl, hp1, T.cl, T.nR, rfl, q, _, rfl, .inr hrow1, _, _, rfl, rfl, _, rfl, ?_⟩
        refine ite2 (fun hc => ?_) (fun hc => ?_)
        · have h2 : ((row.length : Nat) : Int) < ((i + c + n : Nat) : Int) := by
            have := of_decide_eq_true hc
            rw [List.length_map] at this
            exact this
          have hc : row.length < i + c + n := by omega
          have e0 : rdSigns row i = .err row.length := by rw [hrd]; exact if_pos hc
          refine ⟨_, rfl, p, C, dx, _, _, rfl, hp1, T.cl, T.nR, rfl, q, _, rfl, .inr hrow1, (by show 1 ≤ 1000; decide), fun a ha => ⟨a, _, rfl, upd_same, fun d hd hda => ⟨rfl, d, _, upd_same, by rw [upd_ne hda, upd_same], by rw [upd_ne hda] at hd; exact hd, ?_⟩⟩⟩
          have e := Err.out (fun d H' he => k2 _ e0 d H' ⟨s1.trans he.1, s1.free he.2.1, he.2.2⟩) ha hd hda
          rw [← List.length_map (f := nI) (as := row)] at e
          exact e
        · have hc : ¬ row.length < i + c + n := by
            intro z
            refine hc (decide_eq_true ?_)
            rw [List.length_map]
            show ((row.length : Nat) : Int) < ((i + c + n : Nat) : Int)
            omega
          have e0 : rdSigns row i = .text l (i + c + n) := by rw [hrd]; exact if_neg hc
          refine ⟨_, rfl, p, dx, _, rfl, hp1, by rfl, _, rfl, p, q, row, i, i + c + n, rfl, R1, fun H2 B R2 => ?_⟩
          obtain ⟨dx2, hp2⟩ := R2.ob
          refine ⟨⟨_, rfl⟩, ?_⟩
          refine ⟨_, rfl, p, C, dx2, _, _, rfl, hp2, T.cl, T.nR, rfl, _, rfl, _, rfl, _, rfl, _, rfl, ?_⟩
          refine slA_row R2.tp (by omega) fun lt H3 s3 hlt => ⟨lt, rfl, ⟨_, .inl (.inl hlt)⟩, fun D hD => ?_⟩
          rw [← el] at hlt
          have s4 := Same.new (o := .lst []) hD
          refine lc_tup (K := K) (a := lt) (xs := l.map nI) (fun j G => Same H3 G ∧ G D = some (.lst ((l.take j).map sg1))) ⟨s4, upd_same⟩ (fun j G _ ⟨sm, _⟩ => .inl (.inl (sm _ _ hlt))) ?_ ?_
          · rintro j x G hx ⟨sm, hD2⟩
            obtain ⟨b, hb, rfl⟩ := nats_at hx
            have hb94 := hall j b hb
            have hjl := (List.getElem?_eq_some_iff.mp hb).1
            refine ⟨rfl, ?_⟩
            refine ⟨_, rfl, SG, _, sgn b, rfl, rfl, SG_small, atI_nat (SG_at (by omega)), ?_⟩
            refine ⟨_, hD2, ?_, Same.put sm hD, ?_⟩
            · rw [List.length_map, List.length_take, sizeLine_eq]
              omega
            · rw [upd_same, List.take_add_one, hb, List.map_append]
              rfl
          · rintro G ⟨sm, hD2⟩
            rw [List.length_map, List.take_length] at hD2
            have eD : l.map sg1 = (l.map fun i => (⟨#[sgn i]⟩ : Str)).map V.str := by rw [List.map_map]; rfl
            refine ⟨("" : Str), D, l.map fun i => (⟨#[sgn i]⟩ : Str), rfl, rfl, .inl (.inl (.inl (by rw [hD2, eD]))), ?_, ?_⟩
            · rw [ones_sum]
              have e0 : ("" : Str).length = 0 := rfl
              rw [e0, Nat.mul_zero]
              omega
            rw [join_signs]
            exact k1 l (i + c + n) G e0 ((But.same s1).trans (B.trans (But.same (s3.trans sm)))) (R2.same (s3.trans sm))
    · have e0 : rdSigns row i = .err (i + e) := by unfold rdSigns; rw [he]
      exact k2 _ e0 d H' hd
end
end Wq

set_option Elab.async false
set_option linter.all false
set_option maxRecDepth 100000
set_option maxHeartbeats 2000000
namespace PySem
namespace LR
theorem slot_next : Slot "longrange_iterator" "__next__" "longrange_iterator.__next__" := .of (owner := "longrange_iterator") (n := "__next__") (by rw [typeLookup_type, builtinLookup_eq_fast]; kernel_rfl) (by decide +kernel) (by decide +kernel) (by decide +kernel) (by first | exact .inl (by decide +kernel) | exact .inr (by decide +kernel)) (by rw [isSubtype_type]; kernel_rfl)
theorem entry_next : entryFor table "longrange_iterator.__next__" = some Builtin.«longrange_iterator.__next__» := entryFor_of_tree (by kernel_rfl)
theorem owner_lr : Manifest.owners.lookup (String.ofList "longrange_iterator".toList) = some Manifest.sig_longrange_iterator := by kernel_rfl
theorem args_next (a : Value) : argsOk "longrange_iterator.__next__" ⟨[a], []⟩ := by
  unfold argsOk
  kernel_rfl
theorem meets_next (it : Addr) (x left step : Int) (hl0 : ¬left ≤ 0) : Meets (Builtin.«longrange_iterator.__next__» ⟨[.ref it], []⟩) (fun _ R s =>
    s.heap.get? it = some { cls := .type "longrange_iterator", dict := none, data := .fields #[rawInt x, rawInt left, rawInt step], slots := #[] } ∧
      R (.ok (.ret (Value.int x s.toks))) { s with heap := (s.heap.update it (Obj.mapFields fun y => y.setIfInBounds 0 (rawInt (x + step)))).update it (Obj.mapFields fun y => y.setIfInBounds 1 (rawInt (left - 1))), toks := s.toks + 1 }) :=
  .of_wp fun prog w A R s hh => by
    obtain ⟨hp, g, d, tk, os⟩ := s
    obtain ⟨hl, hr⟩ := hh
    wp_walk
    exact ⟨_, rfl, hr⟩
/-- a long range's iterator stands at it -/
def IsLong (h : Heap) (it : Addr) (x left : Int) : Prop := h.get? it = some { cls := .type "longrange_iterator", dict := none, data := .fields #[rawInt x, rawInt left, rawInt 1], slots := #[] }
section
variable {prog : Program} {w : World} {A : Around} {E : Value → Shared → Prop} {s : Shared}
theorem iter_long {r : Addr} {a b : Int} {t u v : Tok} {Q : Value → Shared → Prop} (hr : IsRange s.heap r a b 1 t u v) (hns : Builtin.Range.small a b 1 = false)
    (hQ : Q (.ref s.heap.objs.size) { s with heap := s.heap.push { cls := .type "longrange_iterator", data := .fields #[rawInt a, rawInt (Builtin.Range.rangeSize a b 1), rawInt 1] } }) : wpAny (model prog w) A (pyIter (.ref r)) Q E s := by
  have ty : s.TypeIs (.ref r) "range" := ⟨_, hr, rfl⟩
  unfold Builtin.Range.small at hns
  refine wpAny_pyIter_slot ty F.slot_range_iter (call_meets F.slot_range_iter ty F.entry_range_iter (F.args_range_iter_1 _) (AutoRange.range___iter___range_0 r a b 1 t u v (by rw [hns]; rfl)) ⟨hr, ?_⟩)
  simp only [hns]
  exact ⟨"longrange_iterator", _, ⟨_, Heap.get?_push_size _ rfl, rfl⟩, slot_next.lookup, hQ⟩
theorem next_long {it : Addr} {x left : Int} {Q : Option Value → Shared → Prop} (hit : IsLong s.heap it x left) (hleft : 0 < left)
    (hQ : ∀ h', IsLong h' it (x + 1) (left - 1) → Heap.SameBut it s.heap h' → Q (some (.int x s.toks)) { s with heap := h', toks := s.toks + 1 }) : wpAny (model prog w) A (pyNext (.ref it)) Q E s := by
  have ty : s.TypeIs (.ref it) "longrange_iterator" := ⟨_, hit, rfl⟩
  unfold pyNext
  refine wpAny_bind (wpAny_attempt (wpAny_callSpecial?_slot (name := Str.ofString "__next__") ty slot_next (call_meets slot_next ty entry_next (args_next _) (meets_next it x left 1 (by omega)) ⟨hit, ?_⟩)))
  exact wpAny_pure (hQ _ (Heap.get?_update_self _ (Heap.get?_update_self _ hit rfl) rfl) ((Heap.SameBut.update ..).trans (Heap.SameBut.update ..)))
end
theorem slot_iter : Slot "longrange_iterator" "__iter__" "longrange_iterator.__iter__" := .of (owner := "longrange_iterator") (n := "__iter__") (by rw [typeLookup_type, builtinLookup_eq_fast]; kernel_rfl) (by decide +kernel) (by decide +kernel) (by decide +kernel) (by first | exact .inl (by decide +kernel) | exact .inr (by decide +kernel)) (by rw [isSubtype_type]; kernel_rfl)
theorem entry_iter : entryFor table "longrange_iterator.__iter__" = some Builtin.«dict_keyiterator.__iter__» := entryFor_alias (id' := "dict_keyiterator.__iter__") (by kernel_rfl) (by first | rfl | decide +kernel | (unfold String.splitOn; simp +decide [String.splitOnAux])) (by decide +kernel) (by kernel_rfl)
theorem args_iter (a : Value) : argsOk "longrange_iterator.__iter__" ⟨[a], []⟩ := by
  unfold argsOk
  kernel_rfl
theorem self_long {prog : Program} {w : World} {A : Around} {E : Value → Shared → Prop} {s : Shared} {it : Addr} {x left : Int} {Q : Value → Shared → Prop} (hit : IsLong s.heap it x left) (h : Q (.ref it) s) : wpAny (model prog w) A (pyIter (.ref it)) Q E s := by
  have ty : s.TypeIs (.ref it) "longrange_iterator" := ⟨_, hit, rfl⟩
  refine wpAny_pyIter_slot ty slot_iter (wpAny_call_entry slot_iter ty entry_iter ?_ (args_iter _))
  show wpAny _ _ (ret (.ref it)) _ _ s
  exact wpAny_pure ⟨_, rfl, "longrange_iterator", _, ty, slot_next.lookup, h⟩
end LR
end PySem
namespace Wq
open PySem PySem.Spec PyProof.Rows L2
/-- a long range, left ahead of its end -/
def ItL (lo : Int) (n : Nat) : It := ⟨fun i _ => i < n, fun i H v H' => H' = H ∧ v = .int (lo + (i : Nat)), fun _ _ => False⟩
theorem turn_long {P : Program} {w : World} {K : PySem.W.Frag} {tg : Expr} (it : Addr) (lo : Int) (n : Nat) : Turn P w K tg (ItL lo n) [it] it (fun i h => LR.IsLong h it (lo + (i : Nat)) ((n : Int) - (i : Nat))) where
  mem := by simp
  obj := fun i h st b hb => by
    obtain rfl : b = it := by simpa using hb
    exact ⟨_, st, fun v z => by cases (show Data.fields _ = Data.cell v from z)⟩
  keep := fun i h h' st k => k it (by simp) _ st
  item := by
    intro X hP hw hK hc i pins s σ H E I hf st hg
    subst hP hw hK
    obtain ⟨g0, g1, g2, g3, g4, g5⟩ := hf it (by simp)
    refine LR.next_long st (by have : i < n := hg; omega) fun h' st' sb => ?_
    have I1 : Inv X pins σ H { s with heap := h', toks := s.toks + 1 } := I.turned (t' := s.toks + 1) (fun b o hb e => (sb.2 b hb).trans e) g0 g1 g3 g4 g5
    have e1 : lo + ((i + 1 : Nat) : Int) = lo + (i : Nat) + 1 := by omega
    have e2 : (n : Int) - ((i + 1 : Nat) : Int) = (n : Int) - (i : Nat) - 1 := by omega
    refine ⟨_, rfl, go_of (s := { s with heap := h', toks := s.toks + 1 }) (n := "longrange_iterator") st' rfl rfl (by decide) ⟨.int (lo + (i : Nat)), H, I1, ⟨s.toks, rfl⟩, ⟨rfl, rfl⟩, ?_, fun b hb => (hf b hb).1⟩⟩
    show LR.IsLong h' it (lo + ((i + 1 : Nat) : Int)) ((n : Int) - ((i + 1 : Nat) : Int))
    rw [e1, e2]
    exact st'
  done := fun X _ _ _ _ i pins s σ H E I hf st hg => False.elim hg
  self := fun _ _ _ _ _ st h => LR.self_long st h
/-- the same of a small one -/
theorem turn_small {P : Program} {w : World} {K : PySem.W.Frag} {tg : Expr} (it : Addr) (lo : Int) (n : Nat) : Turn P w K tg (ItL lo n) [it] it (fun i h => IsRangeIter h it (lo + (i : Nat) * 1) ((n : Int) - (i : Nat)) 1) where
  mem := (turn_range (P := P) (w := w) (K := K) (tg := tg) it lo n).mem
  obj := (turn_range (P := P) (w := w) (K := K) (tg := tg) it lo n).obj
  keep := (turn_range (P := P) (w := w) (K := K) (tg := tg) it lo n).keep
  item := (turn_range (P := P) (w := w) (K := K) (tg := tg) it lo n).item
  done := fun X _ _ _ _ i pins s σ H E I hf st hg => False.elim hg
  self := (turn_range (P := P) (w := w) (K := K) (tg := tg) it lo n).self
def iRngX (ta : TA) : TI := fun σ H R => ta σ H fun vs H1 => ∃ i j : Int, vs = [.int i, .int j] ∧ i ≤ j ∧ ((-(2 ^ 62) ≤ i ∧ i < 2 ^ 62 ∧ -(2 ^ 62) ≤ j ∧ j < 2 ^ 62) ∧ R (Itr i (j - i).toNat) H1 ∨ R (ItL i (j - i).toNat) H1)
theorem size_one {i j : Int} (h : i ≤ j) : Builtin.Range.rangeSize i j 1 = j - i := by
  unfold Builtin.Range.rangeSize
  split <;> split <;> omega
theorem pi_rangeX {X : Cx} {tg a b : Expr} {ta : TA} {p pos : Pos} (hg : Gl X "range") (hm : X.mg "range" = none) (ha : PA X [a, b] ta) (hs : starEach [a, b] X.env = [(false, eval a X.env), (false, eval b X.env)] := by rfl) (hs2 : starEach [b] X.env = [(false, eval b X.env)] := by rfl) : PI X tg (.Call (.Name "range" p) [a, b] [] pos) (iRngX ta) := by
  refine ⟨fun pins s σ H R I h => ?_⟩
  refine Call_ (ld_blt I hg hm boot_range (PyProof.Rows.callWith_type1 (thn (ha.run pos pins s σ H _ I h) fun us s1 ⟨vs, H1, I1, r1, qq⟩ => ?_) (by rw [hs, hs2]) (by rw [hs2]; rfl)))
  obtain ⟨i, j, e, hij, qq⟩ := qq
  subst e
  cases r1 with
  | cons r rr =>
    cases rr with
    | cons r' rr =>
      cases rr
      obtain ⟨t, rfl⟩ := r
      obtain ⟨t', rfl⟩ := r'
      rcases qq with ⟨⟨b1, b2, b3, b4⟩, q⟩ | q
      · exact call_range_2 (range_it I1 b1 b2 b3 b4 q)
      · refine call_range_2 ?_
        generalize hs3 : ({ s1 with heap := s1.heap.push { cls := .type "range", data := .fields #[.int i t, .int j t', .int 1 s1.toks] }, toks := s1.toks + 1 } : Shared) = s3
        have h3 : s3.heap = s1.heap.push { cls := .type "range", data := .fields #[.int i t, .int j t', .int 1 s1.toks] } := by rw [← hs3]
        have I3 : Inv X pins σ H1 s3 := by rw [← hs3]; exact I1.kept fun b o e => Heap.get?_push_of_some _ e
        have hr3 : IsRange s3.heap s1.heap.objs.size i j 1 t t' s1.toks := by rw [h3]; exact IsRange.new ..
        have en : (((j - i).toNat : Nat) : Int) = j - i := by omega
        have fin : ∀ b, b ∈ [s3.heap.objs.size] → FpOk X pins H1 b := fun b hb => by
          obtain rfl : b = s3.heap.objs.size := by simpa using hb
          exact I3.fpOk (Nat.le_refl _) (I3.hok.fresh (Nat.le_refl _))
        by_cases hsm : Builtin.Range.small i j 1 = true
        · refine wpAny_pyIter_range hr3 hsm ?_
          refine ⟨s3.heap.objs.size, [s3.heap.objs.size], _, _, H1, rfl, I3.kept (t' := s3.toks) fun b o e => Heap.get?_push_of_some _ e, turn_small _ i (j - i).toNat, ?_, fin, q⟩
          show IsRangeIter _ _ (i + ((0 : Nat) : Int) * 1) ((((j - i).toNat : Nat) : Int) - ((0 : Nat) : Int)) 1
          have e1 : i + ((0 : Nat) : Int) * 1 = i := by simp
          rw [e1, en, size_one hij]
          have e2 : (j - i) - ((0 : Nat) : Int) = j - i := by omega
          rw [e2]
          exact Heap.get?_push_size _ rfl
        · refine LR.iter_long hr3 (by cases hb : Builtin.Range.small i j 1 with | true => exact absurd hb hsm | false => rfl) ?_
          refine ⟨s3.heap.objs.size, [s3.heap.objs.size], _, _, H1, rfl, I3.kept (t' := s3.toks) fun b o e => Heap.get?_push_of_some _ e, turn_long _ i (j - i).toNat, ?_, fin, q⟩
          show LR.IsLong _ _ (i + ((0 : Nat) : Int)) ((((j - i).toNat : Nat) : Int) - ((0 : Nat) : Int))
          have e1 : i + ((0 : Nat) : Int) = i := by simp
          rw [e1, en, size_one hij]
          have e2 : (j - i) - ((0 : Nat) : Int) = j - i := by omega
          rw [e2]
          exact Heap.get?_push_size _ rfl
end Wq

set_option Elab.async false
set_option linter.all false
set_option maxRecDepth 100000
set_option maxHeartbeats 2000000
set_option exponentiation.threshold 5000
namespace Wq
open PySem PySem.Spec PyProof.Rows L2
open Rb (wh le un val Bp Wr rwa fb rdWhole rdSigns rdBits rdRaw rd Res many cutN)
/-- a tuple (value, place) stands at t -/
def TupR (H : Hp) (t : Addr) : Res → Prop
  | .err k => H t = some (.tup [.non, nI k])
  | .whole n a => H t = some (.tup [nI n, nI a])
  | .text z a => H t = some (.tup [.str (txt z), nI a])
  | .nums ns a => ∃ l, H t = some (.tup [.ref l, nI a]) ∧ H l = some (.lst (ns.map nI))
  | .bytes bs a => ∃ l, H t = some (.tup [.ref l, nI a]) ∧ H l = some (.tup (bs.map nI))
theorem TupR.same {H H' : Hp} {t : Addr} {r : Res} (h : TupR H t r) (s : Same H H') : TupR H' t r := by
  cases r with
  | err k => exact s _ _ h
  | whole n a => exact s _ _ h
  | text z a => exact s _ _ h
  | nums ns a => obtain ⟨l, h1, h2⟩ := h; exact ⟨l, s _ _ h1, s _ _ h2⟩
  | bytes bs a => obtain ⟨l, h1, h2⟩ := h; exact ⟨l, s _ _ h1, s _ _ h2⟩
theorem TupR.but {H H' : Hp} {t p : Addr} {r : Res} {o : HO} (h : TupR H t r) (s : But p H H') (hp : H p = some o) (hl : ∀ xs, o ≠ .lst xs) (ht : ∀ xs, o ≠ .tup xs) : TupR H' t r := by
  have tp : ∀ a xs, H a = some (.tup xs) → H' a = some (.tup xs) := fun a xs e => s _ _ e (ne_of e hp (fun z => ht xs z.symm))
  have ls : ∀ a xs, H a = some (.lst xs) → H' a = some (.lst xs) := fun a xs e => s _ _ e (ne_of e hp (fun z => hl xs z.symm))
  cases r with
  | err k => exact tp _ _ h
  | whole n a => exact tp _ _ h
  | text z a => exact tp _ _ h
  | nums ns a => obtain ⟨l, h1, h2⟩ := h; exact ⟨l, tp _ _ h1, ls _ _ h2⟩
  | bytes bs a => obtain ⟨l, h1, h2⟩ := h; exact ⟨l, tp _ _ h1, tp _ _ h2⟩
abbrev sLW : Stmt := top 16
abbrev sLR : Stmt := top 17
theorem scLW : FnScope ["_law_row_here", "_law_at", "_law_found", "_law_weight", "_law_k"] ["_law_row_here", "_law_at"] (defScope sLW) := ⟨rfl, rfl, rfl, by decide +kernel, rfl, by decide +kernel, by decide +kernel⟩
abbrev NLR : List Str := ["_law_row_here", "_law_at", "_law_writing_here", "_law_many", "_law_k", "_law_bits", "_law_byte", "_law_left", "_law_found", "_law_number", "_law_weight", "_law_bit"]
theorem scLR : FnScope NLR ["_law_row_here", "_law_at", "_law_writing_here"] (defScope sLR) := ⟨rfl, rfl, rfl, by decide +kernel, rfl, by decide +kernel, by decide +kernel⟩
def spLW (K : PySem.W.Frag) : Sp := fun vs H Q _ => ∃ (a : Addr) (row : List Nat) (j : Nat), vs = [.ref a, nI j] ∧ SqL K H a (row.map nI) ∧ (∀ b ∈ row, b < 256) ∧ j ≤ row.length ∧ row.length ≤ 100000 ∧
  ∀ t H', H t = none → Same H H' → TupR H' t (rdWhole row j) → Q (.ref t) H'
section
variable {P : Program} {w : World} {K : PySem.W.Frag} {mg : Str → Option Value} {base : Heap}
theorem ok_LW (D : DefAt K mg "_law_whole_read" sLW) (T : Txt K mg) : Cl P w K mg base 1 "_law_whole_read" (spLW K) := by
  refine cl_of D scLW (fun vs H Q E h => ?_) (fun _ _ _ _ _ _ us hl => match us, hl with | [_, _], _ => rfl) (fun f cdv A outer s H vs Q E hr h => ?_)
  · obtain ⟨a, row, j, rfl, _⟩ := h
    rfl
  · obtain ⟨a, row, j, rfl, hS, hb8, hj, hlr, k⟩ := h
    refine ⟨_, pss_cons (ps_asg (pe_tup (pa_cons pe_int (pa_cons pe_int pa_nil))) (pg_tup (by rfl) (pgs_cons (pg_name (i := 2) scLW.nd rfl (Or.inl rfl)) (pgs_cons (pg_name (i := 3) scLW.nd rfl (Or.inl rfl)) pgs_nil))))
(pss_cons (ps_for PassesOwn.never rfl (pi_range2 rfl (by exact T.range) (pa_cons (pv 1) (pa_cons (pe_callB call_len_seq (by rfl) (by exact T.len) PySem.boot_len (pa_cons (pv 0) pa_nil)) pa_nil))) (pg_name (i := 4) scLW.nd rfl (Or.inl rfl))
(C8.pss_cut (ps_par (i := 2) (j := 3) (by rfl) scLW.nd rfl rfl (by decide) rfl rfl  (pa_cons (pe_op op_add (pv 2) (pe_op op_mul (pe_op op_mod (pe_callTy call_int1 (by rfl) (by exact T.int) PyProof.Rows.boot_int (pa_cons (pe_ix ix_list (pv 0) (pv 4) (fun _ _ => rfl)) pa_nil)) pe_int) (pv 3))) (pa_cons (pe_op op_mul (pv 3) pe_int) pa_nil)) (by rfl))
(pss_one (ps_if (pt_cmpR op_lt (pe_ix ix_list (pv 0) (pv 4) (fun _ _ => rfl)) pe_int (nomark _))
(pss_one (ps_ret (pe_ifExp (PW.pt (pw_and (pt_cmpR op_eq (pe_ix ix_list (pv 0) (pv 4) (fun _ _ => rfl)) pe_int (nomark _)) (pw_and1 (pt_cmpR op_gt (pv 4) (pv 1) (nomark _))))) (pe_tup (pa_cons pe_non (pa_cons (pv 4) pa_nil))) (pe_tup (pa_cons (pv 2) (pa_cons (pe_op op_add (pv 4) pe_int) pa_nil))))))
pss_nil))))
(pss_one (ps_ret (pe_tup (pa_cons pe_non (pa_cons (pe_callB call_len_seq (by rfl) (by exact T.len) PySem.boot_len (pa_cons (pv 0) pa_nil)) pa_nil)))))), ?_⟩
    refine ⟨by show 2 ≤ sizeLine; decide, fun T0 hT0 => ⟨T0, _, rfl, .inl (.inl upd_same), rfl, _, _, rfl, _, _, rfl, rfl, ?_⟩⟩
    have s0 := Same.new (o := .tup [V.int 0, V.int 1]) hT0
    have hS0 := s0.seq hS
    have ej : ((((row.map nI).length : Nat) : Int) - (j : Int)).toNat = row.length - j := by rw [List.length_map]; omega
    refine ⟨_, rfl, _, rfl, a, _, rfl, .inl hS0, _, _, rfl, ⟨by omega, by omega, by rw [List.length_map]; omega, by rw [List.length_map]; omega⟩, for_range (fun i σ G => ∃ (acc : Nat) (x4 : Option V), σ = [some (.ref a), some (nI j), some (nI acc), some (nI (2 ^ (7 * i))), x4] ∧ G = upd H T0 (.tup [V.int 0, V.int 1]) ∧ rwa (row.drop j) 0 0 = rwa (row.drop (j + i)) i acc)
      ⟨0, none, rfl, rfl, rfl⟩ ?_ ?_⟩
    · rintro i σ G hi ⟨acc, x4, rfl, rfl, e⟩
      have hi : j + i < row.length := by
        have hi : i < ((((row.map nI).length : Nat) : Int) - (j : Int)).toNat := hi
        rw [ej] at hi
        omega
      obtain ⟨b, hb⟩ : ∃ b, row[j + i]? = some b := ⟨row[j + i], List.getElem?_eq_getElem hi⟩
      have hb256 : b < 256 := hb8 b (List.mem_of_getElem? hb)
      have hat : atI (row.map nI) ((j : Int) + (i : Int)) = some (nI b) := by
        have e : (j : Int) + (i : Int) = ((j + i : Nat) : Int) := by omega
        rw [e]
        exact atI_nat (by rw [List.getElem?_map, hb]; rfl)
      rw [Rb.rwa_at hb] at e
      have e1 : V.int ((acc : Int) + (b : Int) % 128 * ((2 ^ (7 * i) : Nat) : Int)) = nI (acc + 2 ^ (7 * i) * (b % 128)) := by
        have h1 : (b : Int) % 128 = ((b % 128 : Nat) : Int) := by omega
        rw [h1, ← Int.natCast_mul, ← Int.natCast_add, Nat.mul_comm]
      have e2 : V.int (((2 ^ (7 * i) : Nat) : Int) * 128) = nI (2 ^ (7 * (i + 1))) := by
        have h1 : 2 ^ (7 * (i + 1)) = 2 ^ (7 * i) * 128 := by rw [Nat.mul_succ, Nat.pow_add]
        rw [h1, nI, Int.natCast_mul]
        rfl
      refine ⟨fun σ G => σ = [some (V.ref a), some (nI j), some (nI (acc + 2 ^ (7 * i) * (b % 128))), some (nI (2 ^ (7 * (i + 1)))), some (nI (j + i))] ∧ G = upd H T0 (.tup [V.int 0, V.int 1]), ?_, ?_⟩
      · refine ⟨_, rfl, _, rfl, _, rfl, a, _, _, _, rfl, rfl, hS0, hat, .inl ⟨_, rfl, _, _, rfl, rfl, (by show (0 : Int) < 128; decide), _, rfl, _, _, rfl, rfl, .inl ⟨by omega, by omega⟩, _, _, rfl, rfl, _, rfl, _, _, rfl, rfl, .inr ⟨by decide, by decide⟩, _, _, rfl, ?_⟩⟩
        refine ⟨?_, rfl⟩
        show [_, _, some (V.int ((acc : Int) + (b : Int) % 128 * ((2 ^ (7 * i) : Nat) : Int))), some (V.int (((2 ^ (7 * i) : Nat) : Int) * 128)), some (V.int ((j : Int) + (i : Int)))] = _
        rw [e1, e2, ← Int.natCast_add]
      have hat2 : atI (row.map nI) ((j + i : Nat) : Int) = some (nI b) := atI_nat (by rw [List.getElem?_map, hb]; rfl)
      rintro σ G ⟨rfl, rfl⟩
      refine ⟨_, rfl, _, rfl, a, _, _, _, rfl, rfl, hS0, hat2, _, _, rfl, rfl, _, rfl, ?_⟩
      refine ite2 (fun hc => ?_) (fun hc => ?_)
      · have hc : b < 128 := by have := of_decide_eq_true hc; omega
        rw [if_neg (by omega)] at e
        have em : b % 128 = b := Nat.mod_eq_of_lt hc
        have okr : ¬ (b = 0 ∧ 0 < i) → 2 ≤ sizeLine ∧ ∀ t, (upd H T0 (.tup [V.int 0, V.int 1])) t = none → Q (.ref t) (upd (upd H T0 (.tup [V.int 0, V.int 1])) t (.tup [nI (acc + 2 ^ (7 * i) * (b % 128)), V.int (((j + i : Nat) : Int) + 1)])) := by
          intro hz
          rw [if_neg hz] at e
          refine ⟨by decide, fun t ht => k t _ (s0.free ht) (s0.trans (Same.new ht)) ?_⟩
          have er : rdWhole row j = .whole (acc + 2 ^ (7 * i) * b) (j + (i + 1)) := by unfold rdWhole; rw [e]
          rw [er, em]
          have e3 : V.int (((j + i : Nat) : Int) + 1) = nI (j + (i + 1)) := congrArg V.int (by omega)
          show (upd _ t _) t = _
          rw [upd_same, e3]
        refine ⟨_, rfl, _, rfl, a, _, _, _, rfl, rfl, hS0, hat2, rfl, _, rfl, ?_⟩
        refine ite2 (fun h0 => ?_) (fun h0 => ?_)
        · have h0 : b = 0 := Int.ofNat_inj.mp (V.int.inj (of_decide_eq_true h0))
          refine ⟨_, rfl, _, rfl, _, _, rfl, rfl, _, rfl, ?_⟩
          refine ite2 (fun h1 => ?_) (fun h1 => ?_)
          · have h1 : 0 < i := by have := of_decide_eq_true h1; omega
            rw [if_pos ⟨h0, h1⟩] at e
            refine ⟨_, rfl, by show 2 ≤ sizeLine; decide, fun t ht => k t _ (s0.free ht) (s0.trans (Same.new ht)) ?_⟩
            have er : rdWhole row j = .err (j + i) := by unfold rdWhole; rw [e]
            rw [er]
            exact upd_same
          · have h1 : ¬ 0 < i := fun z => h1 (decide_eq_true (by omega))
            exact ⟨_, rfl, _, rfl, _, _, rfl, rfl, okr fun z => h1 z.2⟩
        · have h0 : ¬ b = 0 := fun z => h0 (decide_eq_true (by rw [z]; rfl))
          exact iteF ⟨_, rfl, _, rfl, _, _, rfl, rfl, okr fun z => h0 z.1⟩
      · have hc : b > 127 := by
          have : ¬ (b : Int) < 128 := fun z => hc (decide_eq_true z)
          omega
        rw [if_pos hc] at e
        exact ⟨_, some (nI (j + i)), rfl, rfl, e⟩
    · rintro σ G ⟨acc, x4, rfl, rfl, e⟩
      rw [ej] at e
      have hout := e.trans (Rb.rwa_out (show row.length ≤ j + (row.length - j) by omega))
      refine ⟨_, rfl, a, _, rfl, .inl hS0, by show 2 ≤ sizeLine; decide, fun t ht => k t _ (s0.free ht) (s0.trans (Same.new ht)) ?_⟩
      have er : rdWhole row j = .err row.length := by
        unfold rdWhole
        rw [hout]
        show Res.err (j + (row.length - j)) = _
        congr 1
        omega
      rw [er]
      show (upd _ t _) t = _
      rw [upd_same, List.length_map]
end
end Wq

set_option Elab.async false
set_option linter.all false
set_option maxRecDepth 100000
set_option maxHeartbeats 2000000
namespace Wq
open PySem PySem.Spec PyProof.Rows L2
theorem bit_up (V e t : Nat) : (V / 2 ^ e) % 2 ^ (t + 1) = (V / 2 ^ e) % 2 ^ t + (if V.testBit (e + t) = true then 1 else 0) * 2 ^ t := by
  have h1 : V.testBit (e + t) = (V / 2 ^ e).testBit t := by rw [Nat.testBit_div_two_pow, Nat.add_comm]
  rw [h1, Nat.testBit_eq_decide_div_mod_eq]
  generalize V / 2 ^ e = x
  rw [Nat.pow_succ, Nat.mod_mul]
  simp only [decide_eq_true_eq]
  have h2 : x / 2 ^ t % 2 < 2 := Nat.mod_lt _ (by decide)
  by_cases h : x / 2 ^ t % 2 = 1
  · rw [if_pos h, h, Nat.one_mul, Nat.mul_one]
  · have h0 : x / 2 ^ t % 2 = 0 := by omega
    rw [if_neg h, h0, Nat.zero_mul, Nat.mul_zero]
/-- a cut of a table -/
theorem cut_tab {M a b : Nat} {f : Nat → V} (h : a ≤ b) (hb : b ≤ M) : cutV (tab M f) (some (a : Int)) (some (b : Int)) = tab (b - a) fun t => f (a + t) := by
  unfold cutV
  rw [HT.sIx_nat, HT.sIx_nat, tab_len, Nat.min_eq_left (Nat.le_trans h hb), Nat.min_eq_left hb]
  apply List.ext_getElem?
  intro t
  rw [List.getElem?_take, List.getElem?_drop]
  by_cases ht : t < b - a
  · rw [if_pos ht, tab_at (by omega), tab_at ht]
  · rw [if_neg ht, List.getElem?_eq_none (by rw [tab_len]; omega)]
theorem cut_rest {M a : Nat} {f : Nat → V} (h : a ≤ M) : cutV (tab M f) (some (a : Int)) none = tab (M - a) fun t => f (a + t) := by
  have e : cutV (tab M f) (some (a : Int)) none = cutV (tab M f) (some (a : Int)) (some (M : Int)) := by
    unfold cutV
    rw [HT.sIx_nat, HT.sIx_nat, tab_len, Nat.min_self]
    rfl
  rw [e, cut_tab h (Nat.le_refl M)]
theorem bits_flat (n : Nat) (f : Nat → Bool) : (tab n fun t => b2 (f t)).all flatV = true := by
  rw [List.all_eq_true]
  intro x hx
  obtain ⟨t, _, rfl⟩ := List.mem_map.mp hx
  rfl
theorem one_in {U e n : Nat} (h : U < 2 ^ (e + n)) : inV (V.int 1) (tab n fun t => b2 (U.testBit (e + t))) = decide (U / 2 ^ e > 0) := by
  have hb : ∀ t, U.testBit (e + t) = (U / 2 ^ e).testBit t := fun t => by rw [Nat.testBit_div_two_pow, Nat.add_comm]
  have hx : U / 2 ^ e < 2 ^ n := by
    refine Nat.div_lt_of_lt_mul ?_
    rw [← Nat.pow_add]
    exact h
  unfold inV
  by_cases h0 : U / 2 ^ e > 0
  · rw [decide_eq_true h0, List.any_eq_true]
    obtain ⟨i, hi⟩ := Nat.exists_testBit_of_ne_zero (x := U / 2 ^ e) (by omega)
    have hin : i < n := by
      by_cases hin : i < n
      · exact hin
      · have : U / 2 ^ e < 2 ^ i := Nat.lt_of_lt_of_le hx (Nat.pow_le_pow_right (by decide) (by omega))
        rw [Nat.testBit_lt_two_pow this] at hi
        cases hi
    refine ⟨b2 (U.testBit (e + i)), List.mem_map.mpr ⟨i, List.mem_range.mpr hin, rfl⟩, ?_⟩
    rw [hb, hi]
    rfl
  · rw [decide_eq_false h0, List.any_eq_false]
    intro x hx
    obtain ⟨t, _, rfl⟩ := List.mem_map.mp hx
    have z : U / 2 ^ e = 0 := Nat.eq_zero_of_not_pos h0
    rw [hb, z, Nat.zero_testBit]
    decide
theorem byte_bit {U i b k : Nat} (h : U / 2 ^ (8 * i) % 256 = b) (hk : k < 8) : U.testBit (8 * i + k) = b.testBit k := by
  rw [← h]
  have e : (256 : Nat) = 2 ^ 8 := rfl
  rw [e, Nat.testBit_mod_two_pow, Nat.testBit_div_two_pow, decide_eq_true hk, Bool.true_and, Nat.add_comm]
theorem many_eq (m w : Nat) : -(-(m : Int) * (w : Int) / 8) = ((Rb.many m w : Nat) : Int) := by
  unfold Rb.many
  rw [Int.neg_mul, ← Int.natCast_mul]
  generalize m * w = x
  omega
end Wq

set_option Elab.async false
set_option linter.all false
set_option maxRecDepth 100000
set_option maxHeartbeats 4000000
set_option exponentiation.threshold 5000
namespace Wq
open PySem PySem.Spec PyProof.Rows L2
open Rb (wh le un val Bp Wr rwa fb rdWhole rdSigns rdBits rdRaw rd Res many cutN)
/-- a for over a range of any length: where it is a long one it is left ahead of its end -/
theorem for_any {lo : Int} {n : Nat} {g : TG} {tb : TS} {D : Ends} {σ : L2.St} {H : Hp} (b1 : -(2 ^ 62) ≤ lo) (b2 : lo < 2 ^ 62) (Pv : Nat → L2.St → Hp → Prop) (h0 : Pv 0 σ H)
    (turn : ∀ i σ H, i < n → Pv i σ H → g (.int (lo + i)) σ H fun σ2 H2 => tb { D with nx := Pv (i + 1), ct := Pv (i + 1), bk := D.nx } σ2 H2) (last : ∀ σ H, Pv n σ H → D.nx σ H) (big : 2 ^ 62 ≤ lo + n → ∀ i σ H, Pv i σ H → i < n) :
    (-(2 ^ 62) ≤ lo ∧ lo < 2 ^ 62 ∧ -(2 ^ 62) ≤ lo + (n : Int) ∧ lo + (n : Int) < 2 ^ 62) ∧ (∃ W : Nat → Nat → L2.St → Hp → Prop, (∃ m, W 0 m σ H) ∧ ∀ i m σ H, W i m σ H →
      ((Itr lo n).stop i H ∧ D.nx σ H) ∨ ((Itr lo n).go i H ∧ ∃ N : L2.St → Hp → Prop, (∀ σ' H', N σ' H' → ∃ m', m' < m ∧ W (i + 1) m' σ' H') ∧ ∀ x H', (Itr lo n).yld i H x H' → g x σ H' fun σ2 H2 => tb { D with nx := N, ct := N, bk := D.nx } σ2 H2)) ∨
    ∃ W : Nat → Nat → L2.St → Hp → Prop, (∃ m, W 0 m σ H) ∧ ∀ i m σ H, W i m σ H →
      ((ItL lo n).stop i H ∧ D.nx σ H) ∨ ((ItL lo n).go i H ∧ ∃ N : L2.St → Hp → Prop, (∀ σ' H', N σ' H' → ∃ m', m' < m ∧ W (i + 1) m' σ' H') ∧ ∀ x H', (ItL lo n).yld i H x H' → g x σ H' fun σ2 H2 => tb { D with nx := N, ct := N, bk := D.nx } σ2 H2) := by
  by_cases hb : lo + (n : Int) < 2 ^ 62
  · exact .inl ⟨⟨b1, b2, by omega, hb⟩, for_range Pv h0 turn last⟩
  · have big := big (by omega)
    refine .inr ⟨fun i m σ H => m = n - i ∧ Pv i σ H, ⟨n, rfl, h0⟩, ?_⟩
    rintro i m σ H ⟨rfl, p⟩
    have hi := big i σ H p
    refine .inr ⟨hi, Pv (i + 1), fun σ' H' p' => ⟨n - (i + 1), by omega, rfl, p'⟩, fun x H' y => ?_⟩
    obtain ⟨e1, e2⟩ := y
    subst e1 e2
    exact turn i σ _ hi p
def spLR (K : PySem.W.Frag) : Sp := fun vs H Q _ => ∃ (a t0 : Addr) (row : List Nat) (j : Nat) (x : Wr), vs = [.ref a, nI j, .ref t0] ∧ H a = some (.lst (row.map nI)) ∧ (∀ b ∈ row, b < 256) ∧ j ≤ row.length ∧ row.length ≤ 100000 ∧ gd x ∧ Wrt H t0 x ∧
  ∀ t H', H t = none → Same H H' → TupR H' t (rd row j x) → Q (.ref t) H'
section
variable {P : Program} {w : World} {K : PySem.W.Frag} {mg : Str → Option Value} {base : Heap}
theorem ok_LR (D : DefAt K mg "_law_read" sLR) (T : Txt K mg) (CW : Cl P w K mg base 1 "_law_whole_read" (spLW K)) (CS : Cl P w K mg base 1 "all_signs" spSigns) : Cl P w K mg base 2 "_law_read" (spLR K) := by
  refine cl_of D scLR (fun vs H Q E h => ?_) (fun _ _ _ _ _ _ us hl => match us, hl with | [_, _, _], _ => rfl) (fun f cdv A outer s H vs Q E hr h => ?_)
  · obtain ⟨a, t0, row, j, x, rfl, _⟩ := h
    rfl
  · obtain ⟨a, t0, row, j, x, rfl, ha, hb8, hj, hlr, hg, hw, k⟩ := h
    refine ⟨_, pss_cons (ps_if (pt_cmpR op_eq (pe_ix ix_tup (pv 2) pe_int (fun _ _ => rfl)) pe_str (nomark _))
(pss_one (ps_ret (pe_cl CW hr (by decide) rfl (pa_cons (pv 0) (pa_cons (pv 1) pa_nil)))))
pss_nil)
(pss_cons (ps_if (pt_cmpR op_eq (pe_ix ix_tup (pv 2) pe_int (fun _ _ => rfl)) pe_str (nomark _))
(pss_cons (ps_asg (pe_cl CW hr (by decide) rfl (pa_cons (pv 0) (pa_cons (pv 1) pa_nil))) (pg_tup (by rfl) (pgs_cons (pg_name (i := 3) scLR.nd rfl (Or.inl rfl)) (pgs_cons (pg_name (i := 1) scLR.nd rfl (Or.inl rfl)) pgs_nil))))
(pss_cons (ps_if (pt_cmpR op_isN (pv 3) pe_non (nomark _))
(pss_one (ps_ret (pe_tup (pa_cons pe_non (pa_cons (pv 1) pa_nil)))))
pss_nil)
(pss_cons (ps_for PassesOwn.never rfl (pi_rangeX rfl (by exact T.range) (pa_cons (pv 1) (pa_cons (pe_op op_add (pv 1) (pv 3)) pa_nil))) (pg_name (i := 4) scLR.nd rfl (Or.inl rfl))
(pss_one (ps_if (PW.pt (pw_or (pt_cmpR op_ge (pv 4) (pe_callB call_len_seq (by rfl) (by exact T.len) PySem.boot_len (pa_cons (pv 0) pa_nil)) (nomark _)) (pw_or1 (pt_cmpR op_gt (pe_ix ix_list (pv 0) (pv 4) (fun _ _ => rfl)) pe_int (nomark _)))))
(pss_one (ps_ret (pe_tup (pa_cons pe_non (pa_cons (pv 4) pa_nil)))))
pss_nil)))
(pss_one (ps_ret (pe_tup (pa_cons (pe_join pe_str (pe_lc (own := [("_law_k", 4)]) (g := gName 4) (tt := tYes) (te := tOp rIxS (tCall spSigns [] E0 tNil) (tOp (rIxL K) (tVar 0) (tVar 4))) (by rfl) scLR.nd (pi_range2 rfl (by exact T.range) (pa_cons (pv 1) (pa_cons (pe_op op_add (pv 1) (pv 3)) pa_nil))) (blkOk_by (own := [("_law_k", 4)]) (N := NLR) (sc := defScope sLR) (by decide +kernel)) (fun _ _ _ _ _ => (pg_name (i := 4) scLR.nd rfl (Or.inl rfl))) (fun _ _ _ _ _ => pts_nil) (fun _ _ _ _ _ => (pe_ix ix_str (pe_cl0 CS hr (by decide) rfl) (pe_ix ix_list (pv 0) (pv 4) (fun _ _ => rfl)) (fun _ _ => rfl))))) (pa_cons (pe_op op_add (pv 1) (pv 3)) pa_nil))))))))
pss_nil)
(pss_cons (ps_set (i := 3) scLR.nd rfl (Or.inl rfl) (pe_ifExp (pt_cmpR op_eq (pe_ix ix_tup (pv 2) pe_int (fun _ _ => rfl)) pe_str (nomark _)) (pe_callB call_len_seq (by rfl) (by exact T.len) PySem.boot_len (pa_cons (pe_ix ix_tup (pv 2) pe_int (fun _ _ => rfl)) pa_nil)) (pe_un un_neg (pe_op op_fdiv (pe_op op_mul (pe_un un_neg (pe_callB call_len_seq (by rfl) (by exact T.len) PySem.boot_len (pa_cons (pe_ix ix_tup (pv 2) pe_int (fun _ _ => rfl)) pa_nil))) (pe_ix ix_tup (pv 2) pe_int (fun _ _ => rfl))) pe_int))))
(pss_cons (ps_if (pt_cmpR op_gt (pe_op op_add (pv 1) (pv 3)) (pe_callB call_len_seq (by rfl) (by exact T.len) PySem.boot_len (pa_cons (pv 0) pa_nil)) (nomark _))
(pss_one (ps_ret (pe_tup (pa_cons pe_non (pa_cons (pe_callB call_len_seq (by rfl) (by exact T.len) PySem.boot_len (pa_cons (pv 0) pa_nil)) pa_nil)))))
pss_nil)
(pss_cons (ps_if (pt_cmpR op_eq (pe_ix ix_tup (pv 2) pe_int (fun _ _ => rfl)) pe_str (nomark _))
(pss_one (ps_ret (pe_tup (pa_cons (pe_callTy call_tuple_of (by rfl) (by exact T.tuple) (by decide +kernel) (pa_cons (pe_slice sl_list (pv 0) (po_some (pv 1)) (po_some (pe_op op_add (pv 1) (pv 3)))) pa_nil)) (pa_cons (pe_op op_add (pv 1) (pv 3)) pa_nil)))))
pss_nil)
(pss_cons (ps_set (i := 5) scLR.nd rfl (Or.inl rfl) (pe_lst pa_nil))
(C8.pss_cut (ps_for PassesOwn.never rfl (pi_list (pe_slice sl_list (pv 0) (po_some (pv 1)) (po_some (pe_op op_add (pv 1) (pv 3))))) (pg_name (i := 6) scLR.nd rfl (Or.inl rfl))
(pss_cons (ps_set (i := 7) scLR.nd rfl (Or.inl rfl) (pv 6))
(pss_one (ps_for PassesOwn.never rfl (pi_range1 rfl (by exact T.range) (pa_cons pe_int pa_nil)) (pg_name (i := 4) scLR.nd rfl (Or.inl rfl))
(pss_cons (ps_expr (pe_bm PySem.F.plainAttrs_list PySem.F.slot_list_append PySem.F.type_list_append mt_append (pv 5) (pa_cons (pe_op op_mod (pe_callTy call_int1 (by rfl) (by exact T.int) PyProof.Rows.boot_int (pa_cons (pv 7) pa_nil)) pe_int) pa_nil)))
(pss_one (ps_set (i := 7) scLR.nd rfl (Or.inl rfl) (pe_op op_fdiv (pe_callTy call_int1 (by rfl) (by exact T.int) PyProof.Rows.boot_int (pa_cons (pv 7) pa_nil)) pe_int))))))))
(pss_cons (ps_set (i := 8) scLR.nd rfl (Or.inl rfl) (pe_lst pa_nil))
(C8.pss_cut (ps_for PassesOwn.never rfl (pi_range1 rfl (by exact T.range) (pa_cons (pe_callB call_len_seq (by rfl) (by exact T.len) PySem.boot_len (pa_cons (pe_ix ix_tup (pv 2) pe_int (fun _ _ => rfl)) pa_nil)) pa_nil)) (pg_name (i := 4) scLR.nd rfl (Or.inl rfl))
(pss_cons (ps_asg (pe_tup (pa_cons pe_int (pa_cons pe_int pa_nil))) (pg_tup (by rfl) (pgs_cons (pg_name (i := 9) scLR.nd rfl (Or.inl rfl)) (pgs_cons (pg_name (i := 10) scLR.nd rfl (Or.inl rfl)) pgs_nil))))
(C8.pss_cut (ps_for PassesOwn.never rfl (pi_list (pe_slice sl_list (pv 5) (po_some (pe_op op_mul (pv 4) (pe_ix ix_tup (pv 2) pe_int (fun _ _ => rfl)))) (po_some (pe_op op_mul (pe_op op_add (pv 4) pe_int) (pe_ix ix_tup (pv 2) pe_int (fun _ _ => rfl)))))) (pg_name (i := 11) scLR.nd rfl (Or.inl rfl))
(pss_one (ps_par (i := 9) (j := 10) (by rfl) scLR.nd rfl rfl (by decide) rfl rfl  (pa_cons (pe_op op_add (pv 9) (pe_op op_mul (pv 11) (pv 10))) (pa_cons (pe_op op_mulW (pv 10) pe_int) pa_nil)) (by rfl))))
(pss_one (ps_expr (pe_bm PySem.F.plainAttrs_list PySem.F.slot_list_append PySem.F.type_list_append mt_append (pv 8) (pa_cons (pv 9) pa_nil)))))))
(pss_one (ps_ret (pe_ifExp (pt_cmpR op_in_seq pe_int (pe_slice sl_list (pv 5) (po_some (pe_op op_mul (pe_callB call_len_seq (by rfl) (by exact T.len) PySem.boot_len (pa_cons (pe_ix ix_tup (pv 2) pe_int (fun _ _ => rfl)) pa_nil)) (pe_ix ix_tup (pv 2) pe_int (fun _ _ => rfl)))) po_none) rfl) (pe_tup (pa_cons pe_non (pa_cons (pe_op op_sub (pe_op op_add (pv 1) (pv 3)) pe_int) pa_nil))) (pe_tup (pa_cons (pv 8) (pa_cons (pe_op op_add (pv 1) (pv 3)) pa_nil)))))))))))))), ?_⟩
    have hS : SqL K H a (row.map nI) := .inl (.inl ha)
    cases x with
    | whole n =>
      have h0 : H t0 = some (.tup [.str "whole", nI n]) := hw
      have h1 : SqT K H t0 [.str "whole", nI n] := .inl (.inl h0)
      refine ⟨_, rfl, t0, _, _, _, rfl, rfl, h1, (by rfl), rfl, _, rfl, ?_⟩
      refine (if_pos (by decide +kernel)).mpr ?_
      exact ⟨_, rfl, _, rfl, a, row, j, rfl, hS, hb8, hj, hlr, fun t H' np sm hp => k t H' np sm hp⟩
    | signs z =>
      have h0 : H t0 = some (.tup [.str "signs", .str (txt z)]) := hw
      have h1 : SqT K H t0 [.str "signs", .str (txt z)] := .inl (.inl h0)
      refine ⟨_, rfl, t0, _, _, _, rfl, rfl, h1, (by rfl), rfl, _, rfl, ?_⟩
      refine (if_neg (by decide +kernel)).mpr ?_
      refine ⟨_, rfl, t0, _, _, _, rfl, rfl, h1, (by rfl), rfl, _, rfl, ?_⟩
      refine (if_pos (by decide +kernel)).mpr ?_
      refine ⟨_, rfl, _, rfl, a, row, j, rfl, hS, hb8, hj, hlr, fun t1 H1 nt1 s1 hT1 => ?_⟩
      have ha1 := s1 _ _ ha
      cases e : rwa (row.drop j) 0 0 with
      | err er =>
        have e1 : rdWhole row j = .err (j + er) := by unfold rdWhole; rw [e]
        have e2 : rd row j (.signs z) = .err (j + er) := by show rdSigns row j = _; unfold rdSigns; rw [e]
        rw [e1] at hT1
        refine ⟨t1, _, rfl, .inl (.inl hT1), rfl, _, _, rfl, _, _, rfl, rfl, ?_⟩
        refine ⟨_, rfl, rfl, _, rfl, ?_⟩
        refine iteT ?_
        refine ⟨_, rfl, by show 2 ≤ sizeLine; decide, fun t ht => k t _ (s1.free ht) (s1.trans (Same.new ht)) ?_⟩
        rw [e2]
        exact upd_same
      | ok n c =>
        have e1 : rdWhole row j = .whole n (j + c) := by unfold rdWhole; rw [e]
        rw [e1] at hT1
        have hic : j + c ≤ row.length := by
          have := Rb.rwa_ok e
          rw [List.length_drop] at this
          omega
        obtain ⟨l, el⟩ : ∃ l, l = (row.drop (j + c)).take n := ⟨_, rfl⟩
        have hll : l.length = min n (row.length - (j + c)) := by rw [el, List.length_take, List.length_drop]
        have hrd : rd row j (.signs z) = match fb l with | some k => .err (j + c + k) | none => if row.length < j + c + n then .err row.length else .text l (j + c + n) := by
          show rdSigns row j = _
          unfold rdSigns
          rw [e, el] <;> rfl
        have hlat : ∀ k, k < n → j + c + k < row.length → ∃ b, row[j + c + k]? = some b ∧ l[k]? = some b := by
          intro k hk hk2
          refine ⟨row[j + c + k], List.getElem?_eq_getElem hk2, ?_⟩
          rw [el, List.getElem?_take, if_pos hk, List.getElem?_drop, List.getElem?_eq_getElem hk2]
        have hS1 : SqL K H1 a (row.map nI) := .inl (.inl ha1)
        refine ⟨t1, _, rfl, .inl (.inl hT1), rfl, _, _, rfl, _, _, rfl, rfl, ?_⟩
        refine ⟨_, rfl, rfl, _, rfl, ?_⟩
        refine iteF ?_
        refine ⟨_, rfl, _, rfl, _, rfl, _, _, rfl, rfl, _, _, rfl, by omega, ?_⟩
        have en : (((j + c : Nat) : Int) + (n : Int) - ((j + c : Nat) : Int)).toNat = n := by omega
        rw [en]
        refine for_any (by omega) (by omega) (fun k σ G => ∃ x4 : Option V, σ = [some (.ref a), some (nI (j + c)), some (.ref t0), some (nI n), x4, none, none, none, none, none, none, none] ∧ G = H1 ∧ j + c + k ≤ row.length ∧ ∀ m b, m < k → l[m]? = some b → b ≤ 94)
          ⟨none, rfl, rfl, hic, fun m b hm => absurd hm (Nat.not_lt_zero m)⟩ ?_ ?_ ?_
        · rintro k σ G hk ⟨x4, rfl, rfl, hkl, hall⟩
          have ev : V.int (((j + c : Nat) : Int) + (k : Int)) = nI (j + c + k) := congrArg V.int (by omega)
          refine ⟨_, rfl, _, rfl, a, _, rfl, .inl hS1, _, _, rfl, rfl, _, rfl, ?_⟩
          refine ite2 (fun hc => ?_) (fun hc => ?_)
          · have hc : j + c + k = row.length := by
              have := of_decide_eq_true hc
              rw [List.length_map] at this
              omega
            have hf : fb l = none := Rb.fb_none fun m b hm => hall m b (by have := (List.getElem?_eq_some_iff.mp hm).1; omega) hm
            rw [hf] at hrd
            have hrd2 : rd row j (.signs z) = .err row.length := by rw [hrd]; exact if_pos (by omega)
            refine iteT ⟨_, rfl, by show 2 ≤ sizeLine; decide, fun t ht => ?_⟩
            have e := fun q : TupR (upd G t (.tup [.non, V.int (((j + c : Nat) : Int) + (k : Int))])) t (rd row j (.signs z)) => ‹∀ t H', H t = none → Same H H' → TupR H' t (rd row j (.signs z)) → Q (.ref t) H'› t _ (s1.free ht) (s1.trans (Same.new ht)) q
            refine e ?_
            rw [hrd2, ev, hc]
            exact upd_same
          · have hc : j + c + k < row.length := by
              have : ¬ (((row.map nI).length : Nat) : Int) ≤ ((j + c : Nat) : Int) + (k : Int) := fun z => hc (decide_eq_true z)
              rw [List.length_map] at this
              omega
            obtain ⟨b, hb1, hb2⟩ := hlat k hk hc
            have hat : atI (row.map nI) (((j + c : Nat) : Int) + (k : Int)) = some (nI b) := by
              have e : ((j + c : Nat) : Int) + (k : Int) = ((j + c + k : Nat) : Int) := by omega
              rw [e]
              exact atI_nat (by rw [List.getElem?_map, hb1]; rfl)
            refine ⟨_, rfl, _, rfl, a, _, _, _, rfl, rfl, hS1, hat, _, _, rfl, rfl, _, rfl, ?_⟩
            refine ite2 (fun hd => ?_) (fun hd => ?_)
            · have hd : b > 94 := by have := of_decide_eq_true hd; omega
              have hrd2 : rd row j (.signs z) = .err (j + c + k) := by rw [hrd, Rb.fb_some hb2 hd fun m c' hm hc' => hall m c' hm hc']
              refine ⟨_, rfl, by show 2 ≤ sizeLine; decide, fun t ht => ?_⟩
              have e := fun q : TupR (upd G t (.tup [.non, V.int (((j + c : Nat) : Int) + (k : Int))])) t (rd row j (.signs z)) => ‹∀ t H', H t = none → Same H H' → TupR H' t (rd row j (.signs z)) → Q (.ref t) H'› t _ (s1.free ht) (s1.trans (Same.new ht)) q
              refine e ?_
              rw [hrd2, ev]
              exact upd_same
            · have hd : b ≤ 94 := by
                have : ¬ (94 : Int) < (b : Int) := fun z => hd (decide_eq_true z)
                omega
              refine ⟨_, rfl, rfl, by omega, fun m b' hm hb' => ?_⟩
              by_cases hmk : m = k
              · subst hmk
                rw [hb2] at hb'
                obtain rfl := Option.some.inj hb'
                exact hd
              · exact hall m b' (by omega) hb'
        · rintro σ G ⟨x4, rfl, rfl, hkl, hall⟩
          have hall : ∀ m b : Nat, l[m]? = some b → b ≤ 94 := fun m b hm => hall m b (by have := (List.getElem?_eq_some_iff.mp hm).1; omega) hm
          rw [Rb.fb_none hall, if_neg (by omega)] at hrd
          refine ⟨⟨_, rfl⟩, ?_⟩
          refine ⟨_, rfl, _, rfl, _, rfl, _, _, rfl, rfl, _, _, rfl, ⟨by omega, by omega, by omega, by omega⟩, fun D hD => ?_⟩
          have s4 := Same.new (o := .lst []) hD
          rw [en]
          refine lc_range (lo := ((j + c : Nat) : Int)) (n := n) (fun k G' => Same G G' ∧ G' D = some (.lst ((l.take k).map sg1))) ⟨s4, upd_same⟩ ?_ ?_
          · rintro k G' hk ⟨sm, hD2⟩
            obtain ⟨b, hb1, hb2⟩ := hlat k hk (by omega)
            have hb94 := hall k b hb2
            have hat : atI (row.map nI) (((j + c : Nat) : Int) + (k : Int)) = some (nI b) := by
              have e : ((j + c : Nat) : Int) + (k : Int) = ((j + c + k : Nat) : Int) := by omega
              rw [e]
              exact atI_nat (by rw [List.getElem?_map, hb1]; rfl)
            refine ⟨rfl, ?_⟩
            refine ⟨rfl, _, rfl, _, rfl, a, _, _, _, rfl, rfl, .inl (.inl (sm _ _ ha1)), hat, SG, _, sgn b, rfl, rfl, SG_small, atI_nat (SG_at (by omega)), ?_⟩
            refine ⟨_, hD2, ?_, Same.put sm hD, ?_⟩
            · rw [List.length_map, List.length_take, sizeLine_eq]
              omega
            · rw [upd_same, List.take_add_one, hb2, List.map_append]
              rfl
          · rintro G' ⟨sm, hD2⟩
            have et : l.take n = l := List.take_of_length_le (by omega)
            rw [et] at hD2
            have eD : l.map sg1 = (l.map fun i => (⟨#[sgn i]⟩ : Str)).map V.str := by rw [List.map_map]; rfl
            refine ⟨("" : Str), D, l.map fun i => (⟨#[sgn i]⟩ : Str), rfl, rfl, .inl (.inl (.inl (by rw [hD2, eD]))), ?_, ?_⟩
            · rw [ones_sum]
              have e0 : ("" : Str).length = 0 := rfl
              rw [e0, Nat.mul_zero]
              omega
            rw [join_signs]
            refine ⟨_, rfl, _, rfl, _, _, rfl, rfl, by show 2 ≤ sizeLine; decide, fun t ht => ?_⟩
            have s5 := s1.trans sm
            refine k t _ (s5.free ht) (s5.trans (Same.new ht)) ?_
            rw [hrd]
            show (upd G' t _) t = _
            rw [upd_same]
            refine congrArg (fun v => some (HO.tup [V.str (txt l), v])) ?_
            exact congrArg V.int (show ((j + c : Nat) : Int) + (n : Int) = ((j + c + n : Nat) : Int) by omega)
        · rintro hbig k σ G ⟨x4, rfl, rfl, hkl, hall⟩
          omega
    | bits ns w' =>
      obtain ⟨a1, h0, ha1⟩ := hw
      have h1 : SqT K H t0 [.str "bits", .ref a1, nI w'] := .inl (.inl h0)
      obtain ⟨hn, hw64, hnl⟩ := hg
      have hT0 : ∀ {H'}, Same H H' → SqT K H' t0 [.str "bits", .ref a1, nI w'] := fun s => .inl (.inl (s _ _ h0))
      have hL1 : ∀ {H'}, Same H H' → SqL K H' a1 (ns.map nI) := fun s => .inl (.inl (s _ _ ha1))
      have hrd : rd row j (.bits ns w') = rdBits row j ns.length w' := rfl
      have ek : (((ns.map nI).length : Nat) : Int) = ((ns.length : Nat) : Int) := by rw [List.length_map]
      have emm := many_eq ns.length w'
      have hmw : w' * ns.length ≤ 8 * many ns.length w' ∧ many ns.length w' ≤ 64 := by
        have e : w' * ns.length ≤ 64 * 8 := Nat.mul_le_mul hw64 hnl
        unfold many
        rw [Nat.mul_comm ns.length w']
        omega
      unfold rdBits at hrd
      generalize ec : many ns.length w' = cnt at *
      refine ⟨_, rfl, t0, _, _, _, rfl, rfl, h1, (by rfl), rfl, _, rfl, ?_⟩
      refine (if_neg (by decide +kernel)).mpr ?_
      refine ⟨_, rfl, t0, _, _, _, rfl, rfl, h1, (by rfl), rfl, _, rfl, ?_⟩
      refine (if_neg (by decide +kernel)).mpr ?_
      refine ⟨_, rfl, t0, _, _, _, rfl, rfl, h1, (by rfl), rfl, _, rfl, ?_⟩
      refine (if_neg (by decide +kernel)).mpr ?_
      refine ⟨_, rfl, t0, _, _, _, rfl, rfl, h1, (by rfl), a1, _, rfl, .inl (.inl (.inl ha1)), ?_⟩
      refine ⟨_, rfl, _, rfl, t0, _, _, _, rfl, rfl, h1, (by rfl), _, _, rfl, rfl, ?_, _, _, rfl, rfl, ⟨by decide, by decide⟩, _, rfl, ?_⟩
      · exact .inr ⟨by omega, by omega⟩
      dsimp only
      rw [ek, emm]
      refine ⟨_, rfl, _, rfl, _, _, rfl, rfl, _, rfl, a, _, rfl, .inl hS, _, _, rfl, rfl, _, rfl, ?_⟩
      refine ite2 (fun hc => ?_) (fun hc => ?_)
      · have hc : row.length < j + cnt := by
          have := of_decide_eq_true hc
          rw [List.length_map] at this
          omega
        rw [if_pos hc] at hrd
        refine ⟨_, rfl, a, _, rfl, .inl hS, by show 2 ≤ sizeLine; decide, fun t ht => k t _ ht (Same.new ht) ?_⟩
        rw [hrd]
        show (upd H t _) t = _
        rw [upd_same, List.length_map]
      have hc : j + cnt ≤ row.length := by
        have : ¬ (((row.map nI).length : Nat) : Int) < (j : Int) + (cnt : Int) := fun z => hc (decide_eq_true z)
        rw [List.length_map] at this
        omega
      rw [if_neg (by omega)] at hrd
      obtain ⟨L, eL⟩ : ∃ L, L = (row.drop j).take cnt := ⟨_, rfl⟩
      rw [← eL] at hrd
      have hLl : L.length = cnt := by rw [eL, List.length_take, List.length_drop]; omega
      have hL8 : ∀ b ∈ L, b < 256 := fun b hb => hb8 b (List.mem_of_mem_drop (List.mem_of_mem_take (eL ▸ hb)))
      have hU : un L < 2 ^ (8 * cnt) := by
        have := Rb.un_lt hL8
        rw [hLl, Rb.p256] at this
        exact this
      have hUat : ∀ {i b : Nat}, L[i]? = some b → un L / 2 ^ (8 * i) % 256 = b := fun h => Rb.un_at hL8 h
      generalize un L = U at *
      refine ⟨_, rfl, t0, _, _, _, rfl, rfl, h1, (by rfl), rfl, _, rfl, ?_⟩
      refine (if_neg (by decide +kernel)).mpr ?_
      refine ⟨Nat.zero_le _, fun l hl => ?_⟩
      have s0 := Same.new (o := .lst []) hl
      refine ⟨fun σ G => ∃ x4 x6 x7 : Option V, σ = [some (.ref a), some (nI j), some (.ref t0), some (nI cnt), x4, some (.ref l), x6, x7, none, none, none, none] ∧ Same H G ∧ G l = some (.lst (tab (8 * cnt) fun t => b2 (U.testBit t))), ?_, ?_⟩
      · refine ⟨_, rfl, _, rfl, _, rfl, _, rfl, _, rfl, _, _, rfl, rfl, _, rfl, a, _, rfl, s0.seq hS, fun r hr => ?_⟩
        have s1 := Same.new (o := .lst (cutV (row.map nI) (some (j : Int)) (some ((j : Int) + (cnt : Int))))) hr
        have ej : (j : Int) + (cnt : Int) = ((j + cnt : Nat) : Int) := by omega
        have hr1 : (upd (upd H l (.lst [])) r (.lst (cutV (row.map nI) (some (j : Int)) (some ((j : Int) + (cnt : Int)))))) r = some (.lst (L.map nI)) := by
          rw [upd_same, ej, cutV_nat row j cnt hc, ← eL]
        have nrl : r ≠ l := fun z => by rw [z, upd_same] at hr; cases hr
        refine ⟨r, rfl, ⟨_, .inl (.inl hr1)⟩, for_list (K := K) (a := r) (xs := L.map nI) (fun i σ G => ∃ x4 x6 x7 : Option V, σ = [some (.ref a), some (nI j), some (.ref t0), some (nI cnt), x4, some (.ref l), x6, x7, none, none, none, none] ∧ Same H G ∧ G r = some (.lst (L.map nI)) ∧ G l = some (.lst (tab (8 * i) fun t => b2 (U.testBit t))))
          ⟨none, none, none, rfl, s0.trans s1, hr1, by rw [upd_ne nrl.symm]; exact upd_same⟩ (fun i σ G _ ⟨_, _, _, _, _, e, _⟩ => .inl (.inl e)) ?_ ?_⟩
        · rintro i y σ G hi ⟨x4, x6, x7, rfl, sm, hr2, hl2⟩
          obtain ⟨b, hbi, rfl⟩ := nats_at hi
          have hil := (List.getElem?_eq_some_iff.mp hbi).1
          refine ⟨_, rfl, _, rfl, by decide, by decide, for_range (fun k σ G => ∃ x4 : Option V, σ = [some (.ref a), some (nI j), some (.ref t0), some (nI cnt), x4, some (.ref l), some (nI b), some (nI (b >>> k)), none, none, none, none] ∧ Same H G ∧ G r = some (.lst (L.map nI)) ∧ G l = some (.lst (tab (8 * i + k) fun t => b2 (U.testBit t))))
            ⟨x4, rfl, sm, hr2, hl2⟩ ?_ ?_⟩
          · rintro k σ G2 hk ⟨x4, rfl, sm2, hr3, hl3⟩
            have hk : k < 8 := by
              have hk : k < (8 : Int).toNat := hk
              omega
            refine ⟨_, rfl, .inl ⟨rfl, _, .inl (.inl hl3)⟩, _, rfl, .inl ⟨_, rfl, _, _, rfl, rfl, (by show (0 : Int) < 2; decide), l, _, _, rfl, rfl, hl3, ?_, ?_⟩⟩
            · rw [tab_len]
              exact small1000 (by omega)
            refine ⟨_, rfl, .inl ⟨_, rfl, _, _, rfl, rfl, ⟨by decide, by decide⟩, ?_⟩⟩
            refine ⟨some (.int (0 + (k : Int))), ?_, Same.put sm2 hl, by rw [upd_ne nrl]; exact hr3, ?_⟩
            · have e : ((b >>> k : Nat) : Int) / 2 = ((b >>> (k + 1) : Nat) : Int) := by
                rw [Nat.shiftRight_succ, Int.natCast_ediv]
                rfl
              show [_, _, _, _, _, _, _, some (V.int (((b >>> k : Nat) : Int) / 2)), _, _, _, _] = _
              rw [e]
            · rw [upd_same, ← Nat.add_assoc, ← tab_snoc]
              have e : V.int (((b >>> k : Nat) : Int) % 2) = b2 (U.testBit (8 * i + k)) := by
                rw [byte_bit (hUat hbi) hk, Nat.testBit_eq_decide_div_mod_eq, Nat.shiftRight_eq_div_pow]
                simp only [b2, decide_eq_true_eq]
                congr 1
                split <;> omega
              rw [← e]
          · rintro σ G2 ⟨x4, rfl, sm2, hr3, hl3⟩
            exact ⟨_, _, _, rfl, sm2, hr3, hl3⟩
        · rintro σ G ⟨x4, x6, x7, rfl, sm, hr2, hl2⟩
          rw [List.length_map, hLl] at hl2
          exact ⟨_, _, _, rfl, sm, hl2⟩
      rintro σ G ⟨x4, x6, x7, rfl, sm, hl2⟩
      refine ⟨Nat.zero_le _, fun q hq => ?_⟩
      have nlq : l ≠ q := ne_of_none hl2 hq
      have hqH : H q = none := sm.free hq
      have smq := Same.put (o := .lst []) sm hqH
      refine ⟨fun σ G => ∃ x4 x9 x10 x11 : Option V, σ = [some (.ref a), some (nI j), some (.ref t0), some (nI cnt), x4, some (.ref l), x6, x7, some (.ref q), x9, x10, x11] ∧ Same H G ∧ G l = some (.lst (tab (8 * cnt) fun t => b2 (U.testBit t))) ∧ G q = some (.lst (tab ns.length fun i => nI (U / 2 ^ (w' * i) % 2 ^ w'))), ?_, ?_⟩
      · refine ⟨_, rfl, t0, _, _, _, rfl, rfl, hT0 smq, (by rfl), a1, _, rfl, .inl (hL1 smq), _, rfl, by rw [ek]; omega, by rw [ek]; omega, for_range (fun i σ G => ∃ x4 x9 x10 x11 : Option V, σ = [some (.ref a), some (nI j), some (.ref t0), some (nI cnt), x4, some (.ref l), x6, x7, some (.ref q), x9, x10, x11] ∧ Same H G ∧ G l = some (.lst (tab (8 * cnt) fun t => b2 (U.testBit t))) ∧ G q = some (.lst (tab i fun i => nI (U / 2 ^ (w' * i) % 2 ^ w'))))
          ⟨x4, none, none, none, rfl, smq, by rw [upd_ne nlq]; exact hl2, upd_same⟩ ?_ ?_⟩
        · rintro i σ G2 hi ⟨x4, x9, x10, x11, rfl, sm2, hl3, hq3⟩
          have hi : i < ns.length := by
            rw [ek] at hi
            omega
          have hwi : w' * i + w' ≤ w' * ns.length := by rw [← Nat.mul_succ]; exact Nat.mul_le_mul_left _ hi
          refine ⟨by show 2 ≤ sizeLine; decide, fun T hT => ⟨T, _, rfl, .inl (.inl upd_same), rfl, _, _, rfl, _, _, rfl, rfl, ?_⟩⟩
          have s3 := Same.new (o := .tup [V.int 0, V.int 1]) hT
          have sm3 := sm2.trans s3
          have hl4 := s3 _ _ hl3
          have hq4 := s3 _ _ hq3
          refine ⟨fun σ G => ∃ x4 x10 x11 : Option V, σ = [some (.ref a), some (nI j), some (.ref t0), some (nI cnt), x4, some (.ref l), x6, x7, some (.ref q), some (nI (U / 2 ^ (w' * i) % 2 ^ w')), x10, x11] ∧ Same H G ∧ G l = some (.lst (tab (8 * cnt) fun t => b2 (U.testBit t))) ∧ G q = some (.lst (tab i fun i => nI (U / 2 ^ (w' * i) % 2 ^ w'))), ?_, ?_⟩
          · have ea : (0 + (i : Int)) * (w' : Int) = ((w' * i : Nat) : Int) := by rw [Int.zero_add, ← Int.natCast_mul, Nat.mul_comm]
            have eb : (0 + (i : Int) + 1) * (w' : Int) = ((w' * i + w' : Nat) : Int) := by rw [Int.zero_add, Int.add_mul, ← Int.natCast_mul, Nat.mul_comm i w']; omega
            have ecut : cutV (tab (8 * cnt) fun t => b2 (U.testBit t)) (some ((0 + (i : Int)) * (w' : Int))) (some ((0 + (i : Int) + 1) * (w' : Int))) = tab w' fun t => b2 (U.testBit (w' * i + t)) := by
              rw [ea, eb, cut_tab (by omega) (by omega)]
              congr 1
              omega
            refine ⟨_, rfl, _, rfl, _, rfl, t0, _, _, _, rfl, rfl, hT0 sm3, (by rfl), _, _, rfl, rfl, ?_, _, rfl, _, rfl, _, _, rfl, rfl, _, rfl, t0, _, _, _, rfl, rfl, hT0 sm3, (by rfl), _, _, rfl, rfl, ?_, _, rfl, l, _, rfl, .inl (.inl hl4), fun r hr => ?_⟩
            · exact .inr ⟨by omega, by omega⟩
            · exact .inr ⟨by omega, by omega⟩
            have s4 := Same.new (o := .lst (cutV (tab (8 * cnt) fun t => b2 (U.testBit t)) (some ((0 + (i : Int)) * (w' : Int))) (some ((0 + (i : Int) + 1) * (w' : Int))))) hr
            have hr5 : (upd (upd G2 T (.tup [V.int 0, V.int 1])) r (.lst (cutV (tab (8 * cnt) fun t => b2 (U.testBit t)) (some ((0 + (i : Int)) * (w' : Int))) (some ((0 + (i : Int) + 1) * (w' : Int)))))) r = some (.lst (tab w' fun t => b2 (U.testBit (w' * i + t)))) := by
              rw [upd_same, ecut]
            refine ⟨r, rfl, ⟨_, .inl (.inl hr5)⟩, for_list (K := K) (a := r) (xs := tab w' fun t => b2 (U.testBit (w' * i + t))) (fun u σ G => ∃ x11 : Option V, σ = [some (.ref a), some (nI j), some (.ref t0), some (nI cnt), some (.int (0 + (i : Int))), some (.ref l), x6, x7, some (.ref q), some (nI (U / 2 ^ (w' * i) % 2 ^ u)), some (nI (2 ^ u)), x11] ∧ Same H G ∧ G l = some (.lst (tab (8 * cnt) fun t => b2 (U.testBit t))) ∧ G q = some (.lst (tab i fun i => nI (U / 2 ^ (w' * i) % 2 ^ w'))) ∧ G r = some (.lst (tab w' fun t => b2 (U.testBit (w' * i + t)))))
              ⟨x11, ?_, sm3.trans s4, s4 _ _ hl4, s4 _ _ hq4, hr5⟩ (fun _ _ G' _ ⟨_, _, _, _, _, e⟩ => .inl (.inl e)) ?_ ?_⟩
            · rw [Nat.pow_zero, Nat.mod_one]
              rfl
            · rintro u v σ G' hu ⟨x11, rfl, sm5, hl5, hq5, hr6⟩
              have huw := (List.getElem?_eq_some_iff.mp hu).1
              rw [tab_len] at huw
              rw [tab_at huw] at hu
              obtain rfl := Option.some.inj hu
              refine ⟨_, rfl, _, rfl, _, rfl, _, _, rfl, rfl, .inl (by cases U.testBit (w' * i + u) <;> decide), _, _, rfl, rfl, _, rfl, _, _, rfl, rfl, ?_, _, _, rfl, ?_⟩
              · exact wide_mul (a := 65) (b := 2) (by rw [Int.natAbs_natCast]; exact Nat.pow_lt_pow_right (by decide) (by omega)) (by decide) (by decide) (by decide) (by decide)
              refine ⟨some (b2 (U.testBit (w' * i + u))), ?_, sm5, hl5, hq5, hr6⟩
              have e1 : V.int (((U / 2 ^ (w' * i) % 2 ^ u : Nat) : Int) + (if U.testBit (w' * i + u) = true then 1 else 0) * ((2 ^ u : Nat) : Int)) = nI (U / 2 ^ (w' * i) % 2 ^ (u + 1)) := by
                rw [bit_up]
                cases U.testBit (w' * i + u) <;> simp
              have e2 : V.int (((2 ^ u : Nat) : Int) * 2) = nI (2 ^ (u + 1)) := by
                rw [Nat.pow_succ]
                exact congrArg V.int (by omega)
              show [_, _, _, _, _, _, _, _, _, some (V.int (((U / 2 ^ (w' * i) % 2 ^ u : Nat) : Int) + (if U.testBit (w' * i + u) = true then 1 else 0) * ((2 ^ u : Nat) : Int))), some (V.int (((2 ^ u : Nat) : Int) * 2)), _] = _
              rw [e1, e2]
            · rintro σ G' ⟨x11, rfl, sm5, hl5, hq5, hr6⟩
              rw [tab_len]
              exact ⟨_, _, _, rfl, sm5, hl5, hq5⟩
          · rintro σ G5 ⟨x4, x10, x11, rfl, sm5, hl5, hq5⟩
            refine ⟨_, rfl, .inl ⟨rfl, _, .inl (.inl hq5)⟩, _, rfl, q, _, _, rfl, rfl, hq5, ?_, ?_⟩
            · rw [tab_len]
              exact small1000 (by omega)
            refine ⟨_, _, _, _, rfl, Same.put sm5 hqH, by rw [upd_ne nlq]; exact hl5, ?_⟩
            rw [upd_same, ← tab_snoc]
        · rintro σ G2 ⟨x4, x9, x10, x11, rfl, sm2, hl3, hq3⟩
          have e : ((((ns.map nI).length : Nat) : Int)).toNat = ns.length := by rw [List.length_map]; rfl
          rw [e] at hq3
          exact ⟨_, _, _, _, rfl, sm2, hl3, hq3⟩
      rintro σ G2 ⟨x4, x9, x10, x11, rfl, sm2, hl3, hq3⟩
      have ee : (((ns.map nI).length : Nat) : Int) * (w' : Int) = ((w' * ns.length : Nat) : Int) := by rw [List.length_map, ← Int.natCast_mul, Nat.mul_comm]
      have ecut : cutV (tab (8 * cnt) fun t => b2 (U.testBit t)) (some ((((ns.map nI).length : Nat) : Int) * (w' : Int))) none = tab (8 * cnt - w' * ns.length) fun t => b2 (U.testBit (w' * ns.length + t)) := by
        rw [ee, cut_rest hmw.1]
      refine ⟨_, rfl, _, rfl, t0, _, _, _, rfl, rfl, hT0 sm2, (by rfl), a1, _, rfl, .inl (hL1 sm2), _, rfl, t0, _, _, _, rfl, rfl, hT0 sm2, (by rfl), _, _, rfl, rfl, .inr ⟨by omega, by omega⟩, _, rfl, l, _, rfl, .inl (.inl hl3), fun r hr => ?_⟩
      have s3 := Same.new (o := .lst (cutV (tab (8 * cnt) fun t => b2 (U.testBit t)) (some ((((ns.map nI).length : Nat) : Int) * (w' : Int))) none)) hr
      have hr1 : (upd G2 r (.lst (cutV (tab (8 * cnt) fun t => b2 (U.testBit t)) (some ((((ns.map nI).length : Nat) : Int) * (w' : Int))) none))) r = some (.lst (tab (8 * cnt - w' * ns.length) fun t => b2 (U.testBit (w' * ns.length + t)))) := by
        rw [upd_same, ecut]
      have hin : inV (V.int 1) (tab (8 * cnt - w' * ns.length) fun t => b2 (U.testBit (w' * ns.length + t))) = decide (U / 2 ^ (w' * ns.length) > 0) := one_in (by rw [Nat.add_sub_cancel' hmw.1]; exact hU)
      have sm3 := sm2.trans s3
      refine ⟨r, _, rfl, .inl (.inl (.inl hr1)), rfl, bits_flat _ _, _, rfl, ?_⟩
      refine ite2 (fun hz => ?_) (fun hz => ?_)
      · have hz : U / 2 ^ (w' * ns.length) > 0 := of_decide_eq_true (hin.symm.trans hz)
        rw [if_pos hz] at hrd
        refine ⟨_, rfl, _, rfl, _, _, rfl, rfl, _, _, rfl, rfl, by show 2 ≤ sizeLine; decide, fun t ht => ?_⟩
        refine k t _ (sm3.free ht) (sm3.trans (Same.new ht)) ?_
        rw [hrd]
        show (upd _ t _) t = _
        rw [upd_same]
        refine congrArg (fun v => some (HO.tup [.non, v])) ?_
        have h1 : 0 < cnt := by
          rcases Nat.eq_zero_or_pos cnt with z | z
          · rw [z] at hU
            have : U = 0 := by
              have h2 : 2 ^ (8 * 0) = 1 := rfl
              omega
            rw [this, Nat.zero_div] at hz
            omega
          · exact z
        exact congrArg V.int (show (j : Int) + (cnt : Int) - 1 = ((j + cnt - 1 : Nat) : Int) by omega)
      · have hz : ¬ U / 2 ^ (w' * ns.length) > 0 := fun z => hz (hin.trans (decide_eq_true z))
        rw [if_neg hz] at hrd
        refine ⟨_, rfl, _, rfl, _, rfl, _, _, rfl, rfl, by show 2 ≤ sizeLine; decide, fun t ht => ?_⟩
        refine k t _ (sm3.free ht) (sm3.trans (Same.new ht)) ?_
        rw [hrd]
        have hq4 := s3 _ _ hq3
        refine ⟨q, ?_, ?_⟩
        · show (upd _ t _) t = _
          rw [upd_same]
          refine congrArg (fun v => some (HO.tup [V.ref q, v])) ?_
          exact congrArg V.int (show (j : Int) + (cnt : Int) = ((j + cnt : Nat) : Int) by omega)
        · rw [upd_ne (ne_of_none hq4 ht), hq4]
          congr 2
          show _ = (cutN U w' ns.length).map nI
          unfold cutN
          rw [List.map_map]
          rfl
    | raw bs =>
      obtain ⟨a1, h0, ha1⟩ := hw
      have h1 : SqT K H t0 [.str "raw", .ref a1] := .inl (.inl h0)
      refine ⟨_, rfl, t0, _, _, _, rfl, rfl, h1, (by rfl), rfl, _, rfl, ?_⟩
      refine (if_neg (by decide +kernel)).mpr ?_
      refine ⟨_, rfl, t0, _, _, _, rfl, rfl, h1, (by rfl), rfl, _, rfl, ?_⟩
      refine (if_neg (by decide +kernel)).mpr ?_
      refine ⟨_, rfl, t0, _, _, _, rfl, rfl, h1, (by rfl), rfl, _, rfl, ?_⟩
      refine (if_pos (by decide +kernel)).mpr ?_
      refine ⟨_, rfl, t0, _, _, _, rfl, rfl, h1, (by rfl), a1, _, rfl, .inl (.inl (.inl ha1)), ?_⟩
      refine ⟨_, rfl, _, rfl, _, _, rfl, rfl, _, rfl, a, _, rfl, .inl hS, _, _, rfl, rfl, _, rfl, ?_⟩
      refine ite2 (fun hc => ?_) (fun hc => ?_)
      · have hc : row.length < j + bs.length := by
          have := of_decide_eq_true hc
          rw [List.length_map, List.length_map] at this
          omega
        have hrd : rd row j (.raw bs) = .err row.length := if_pos hc
        refine ⟨_, rfl, a, _, rfl, .inl hS, by show 2 ≤ sizeLine; decide, fun t ht => k t _ ht (Same.new ht) ?_⟩
        rw [hrd]
        show (upd H t _) t = _
        rw [upd_same, List.length_map]
      · have hc : ¬ row.length < j + bs.length := by
          intro z
          refine hc (decide_eq_true ?_)
          rw [List.length_map, List.length_map]
          omega
        have hrd : rd row j (.raw bs) = .bytes ((row.drop j).take bs.length) (j + bs.length) := if_neg hc
        refine ⟨_, rfl, t0, _, _, _, rfl, rfl, h1, (by rfl), rfl, _, rfl, ?_⟩
        refine (if_pos (by decide +kernel)).mpr ?_
        have ej : (j : Int) + (((bs.map nI).length : Nat) : Int) = ((j + bs.length : Nat) : Int) := by rw [List.length_map]; omega
        refine ⟨_, rfl, _, rfl, _, rfl, _, rfl, _, rfl, _, _, rfl, rfl, _, rfl, a, _, rfl, hS, fun r hr => ?_⟩
        have s1 := Same.new (o := .lst (cutV (row.map nI) (some (j : Int)) (some ((j : Int) + (((bs.map nI).length : Nat) : Int))))) hr
        have hr1 : (upd H r (.lst (cutV (row.map nI) (some (j : Int)) (some ((j : Int) + (((bs.map nI).length : Nat) : Int)))))) r = some (.lst (((row.drop j).take bs.length).map nI)) := by
          rw [upd_same, ej, cutV_nat row j bs.length (by omega)]
        refine ⟨r, _, rfl, .inl ⟨.inl (.inl hr1), fun u hu => ?_⟩⟩
        have s2 := Same.new (o := .tup (((row.drop j).take bs.length).map nI)) hu
        refine ⟨_, rfl, _, rfl, _, _, rfl, rfl, by show 2 ≤ sizeLine; decide, fun t ht => ?_⟩
        have s3 := s1.trans s2
        refine k t _ (s3.free ht) (s3.trans (Same.new ht)) ?_
        rw [hrd]
        refine ⟨u, ?_, by rw [upd_ne (ne_of_none upd_same ht)]; exact upd_same⟩
        show (upd _ t _) t = _
        rw [upd_same]
        refine congrArg (fun v => some (HO.tup [V.ref u, v])) ?_
        exact congrArg V.int ej
end
end Wq

set_option Elab.async false
set_option linter.all false
set_option maxRecDepth 100000
set_option maxHeartbeats 2000000
set_option exponentiation.threshold 5000
namespace Wq
open PySem PySem.Spec PyProof.Rows L2
open Rb (wh le un val Bp Wr rwa fb rdWhole rdSigns rdBits rdRaw rd Res many cutN)
theorem pss_pre {X : Cx} {b : List Stmt} {t t' : TS} (h : PSs X b t) (i : ∀ D σ H, t' D σ H → t D σ H) : PSs X b t' := ⟨fun pins s σ H D I q => h.run pins s σ H D I (i D σ H q)⟩
section
variable {X : Cx} {CX : CXT} {k : Nat} {f C : Addr} {fd : FuncData} {ps : List Str} {sp : Sp} {E : L2.St → XK} {m : Str} {p pos apos : Pos} {e o : Expr} {es : List Expr} {ta : TE} {t : TA}
/-- a method called where what is let out knows the slots -/
def tMethV (C : Addr) (m : Str) (sp : Sp) (E : L2.St → XK) (ta : TE) (t : TA) : TE := fun σ H Q => ta σ H fun x H1 => ∃ a dx fs, x = .ref a ∧ H1 a = some (.ins C dx fs) ∧ fs.lookup m = none ∧
  t σ H1 fun vs H2 => sp (x :: vs) H2 Q (E σ)
theorem pe_methV {pl : Sem Bool} (he : PE X o ta) (c : Cls X.K C) (hm : Meth X.K C m f) (F : FnOk X.prog X.w X.K X.mg X.base CX k f fd ps sp) (hr : Room k X.A) (hb : Binds X.K fd ps []) (hx : ∀ σ, PassesAt CX X σ (E σ)) (ha : PA X (e :: es) t)
    (hst : starEach (e :: es) X.env = (false, eval e X.env) :: starEach es X.env := by rfl) (hpl : (backTo pos (starEach es X.env)).any (·.1) = false := by rfl)
    (ht : eval (.Call (.Attribute o m apos) (e :: es) [] pos) X.env = (do
      let ov ← eval o X.env
      standAt apos.atName
      let (f, first) ← holding [ov] (getMethod ov m pl)
      callWith pos f first (backTo pos (starEach (e :: es) X.env)) (backToKw pos (keywordEach [] X.env))) := by rfl) :
    PE X (.Call (.Attribute o m apos) (e :: es) [] pos) (tMethV C m sp E ta t) := by
  refine ⟨fun pins s σ H Q I h => ?_⟩
  refine PySem.W.methodCall_KW (pl := pl) (thn (he.run pins s σ H _ I h) fun u s1 z => ?_) ht
  obtain ⟨x, H1, I1, rx, a, dx, fs, ex, ea, l, q⟩ := z
  subst ex
  obtain rfl : u = Value.ref a := rx
  refine getmeth_ok I1 ea c hm l ?_
  refine PySem.W.callWith_K (first := [.ref a]) (h₀ := X.base) I.ok.mod.kin hm.kp (thn (ha.run pos pins s1 σ H1 _ I1 q) fun us s2 z2 => ?_) hst hpl
  obtain ⟨vs, H2, I2, r, q2⟩ := z2
  exact ⟨I2.kIn, run_fnS (us := .ref a :: us) (vs := .ref a :: vs) F hr hb (hx σ) I2 (.cons rfl r) q2⟩
theorem pe_meth0V {pl : Sem Bool} (he : PE X o ta) (c : Cls X.K C) (hm : Meth X.K C m f) (F : FnOk X.prog X.w X.K X.mg X.base CX k f fd ps sp) (hr : Room k X.A) (hb : Binds X.K fd ps []) (hx : ∀ σ, PassesAt CX X σ (E σ))
    (ht : eval (.Call (.Attribute o m apos) [] [] pos) X.env = (do
      let ov ← eval o X.env
      standAt apos.atName
      let (f, first) ← holding [ov] (getMethod ov m pl)
      callWith pos f first (backTo pos (starEach [] X.env)) (backToKw pos (keywordEach [] X.env))) := by rfl) :
    PE X (.Call (.Attribute o m apos) [] [] pos) (tMethV C m sp E ta tNil) := by
  refine ⟨fun pins s σ H Q I h => ?_⟩
  refine PySem.W.methodCall_KW (pl := pl) (thn (he.run pins s σ H _ I h) fun u s1 z => ?_) ht
  obtain ⟨x, H1, I1, rx, a, dx, fs, ex, ea, l, q⟩ := z
  subst ex
  obtain rfl : u = Value.ref a := rx
  refine getmeth_ok I1 ea c hm l ?_
  exact PySem.W.callWith_K0 (first := [.ref a]) I1.kIn hm.kp (run_fnS (us := [.ref a]) (vs := [.ref a]) F hr hb (hx σ) I1 (.cons rfl .nil) q)
/-- isinstance(e, c): e the exception that the suite holds, with fields of its own -/
theorem call_isD {a D : Addr} {oe : Obj} {cls : Value} {d : Option Addr} {pn : List (Addr × Obj)} (T : ExcC X.K D) (hz : Zc cls d oe) (hf : ∃ vs, oe.data = .fields vs) :
    CallR (X.suite a ((a, oe) :: pn)) (.builtin "isinstance") (fun xs H Q => ∃ (c : V) (cv : Value) (b : Bool) (dd : Addr) (fs : List (Str × V)), xs = [.ref a, c] ∧ cls = .ref D ∧ d = some dd ∧ H dd = some (.xd fs) ∧ (∀ u, RelV c u → u = cv) ∧ PySem.W.kitOne X.K (.ref D) cv = some b ∧ Q (.bl b) H) := by
  intro pins s σ H xs us Q I r h
  obtain ⟨c, cv, b, dd, fs, rfl, ec, ed, hd, hcv, e, q⟩ := h
  subst ec ed
  cases r with
  | cons rx rr =>
    cases rr with
    | cons rt rr =>
      cases rr
      cases rx
      have ec := hcv _ rt
      subst ec
      obtain ⟨ha, _⟩ := I.pin (a, oe) (List.mem_append.mpr (.inl List.mem_cons_self))
      obtain ⟨vs, hv⟩ := hf
      have hx : ObjOk X.prog X.w H s.heap dd (.xd fs) := I.hok dd _ hd
      obtain ⟨mA, hns, _⟩ := hx
      obtain ⟨od, ho, _⟩ := lookIn_ns hns
      have J : PySem.W.InstAt s.heap a oe D (some od) := ⟨ha, hz.1, by unfold PySem.W.notCls; rw [hv] <;> rfl, by rw [hz.2]; exact ho⟩
      exact PySem.W.kia_one (PySem.W.kitx_exc (by obtain ⟨cd, hc, _⟩ := PySem.W.any_some T.hd; rw [hc]; rfl) T.hg T.hk T.hs T.ha T.hn T.ht T.hm) I.kIn J e (fun z => nomatch z) fun tk => ⟨.bl b, H, I.kept (t' := tk) fun _ _ z => z, rfl, q⟩
end
end Wq

set_option Elab.async false
set_option linter.all false
set_option maxRecDepth 100000
set_option maxHeartbeats 4000000
set_option exponentiation.threshold 5000
namespace Wq
open PySem PySem.Spec PyProof.Rows L2
open Rb (wh le un val Bp Wr rwa fb rdWhole rdSigns rdBits rdRaw rd Res many cutN)
/-- where the reader stands behind what it read -/
def nxt : Res → Option Nat
  | .err _ => none
  | .whole _ a => some a
  | .text _ a => some a
  | .nums _ a => some a
  | .bytes _ a => some a
abbrev sLT : Stmt := top 18
abbrev NLT : List Str := ["_law_reader", "_law_writing_here", "e"]
theorem scLT : FnScope NLT ["_law_reader", "_law_writing_here"] (defScope sLT) := ⟨rfl, rfl, rfl, by decide +kernel, rfl, by decide +kernel, by decide +kernel⟩
structure TxtL (K : PySem.W.Frag) (mg : Str → Option Value) (CE CS : Addr) : Prop where
  isi : mg "isinstance" = none
  gS : mg "SearchError" = some (.ref CS)
  ex : ExcC K CE
  kt : PySem.W.kitOne K (.ref CE) (.ref CS) = some true
/-- the method m of the class at C -/
def MthX (P : Program) (w : World) (K : PySem.W.Frag) (mg : Str → Option Value) (base : Heap) (C : Addr) (m : Str) (k : Nat) (ps : List Str) (sp : Sp) : Prop :=
  ∃ f fd, Meth K C m f ∧ FnOk P w K mg base (L2.CX P w) k f fd ps sp ∧ Binds K fd ps []
def spLT (C : Addr) : Sp := fun vs H Q _ => ∃ (p q t0 : Addr) (row : List Nat) (i : Nat) (x : Wr), vs = [.ref p, .ref t0] ∧ RAt C H p q row i ∧ i ≤ row.length ∧ row.length ≤ 100000 ∧ (∀ b ∈ row, b < 256) ∧ gd x ∧ Wrt H t0 x ∧
  ∀ t H', But p H H' → TupR H' t (rd row i x) → (∀ a, nxt (rd row i x) = some a → RAt C H' p q row a) → Q (.ref t) H'
def bTold (C CE : Addr) (W : WX) : TS := fun D σ H => ∃ (p q t0 : Addr) (row : List Nat) (i : Nat) (x : Wr), σ = [some (.ref p), some (.ref t0), none] ∧ RAt C H p q row i ∧ i ≤ row.length ∧ row.length ≤ 100000 ∧ (∀ b ∈ row, b < 256) ∧ gd x ∧ Wrt H t0 x ∧
  (∀ t H', But p H H' → TupR H' t (rd row i x) → (∀ a, nxt (rd row i x) = some a → RAt C H' p q row a) → D.rt (.ref t) H') ∧ (∀ e, rd row i x = .err e → ∀ d H', Err H H' d e → W (.ref CE) (some d) σ H')
def cTold (CE : Addr) (a : Addr) (cls : Value) (d : Option Addr) : TS := fun D σ H => ∃ (dd : Addr) (k : Nat), cls = .ref CE ∧ d = some dd ∧ σ[2]? = some (some (.ref a)) ∧ H dd = some (.xd [("place", nI k)]) ∧ ∀ t, H t = none → D.rt (.ref t) (upd H t (.tup [.non, nI k]))
section
variable {P : Program} {w : World} {K : PySem.W.Frag} {mg : Str → Option Value} {base : Heap} {C CE CS fI : Addr}
theorem ok_LT (D : DefAt K mg "_law_told" sLT) (T : Txt K mg) (TL : TxtL K mg CE CS) (TE : TxtE K mg CE fI) (TR : TxtR K mg C)
    (mT : MthX P w K mg base C "bits" 4 ["self", "many", "width"] (spRT C CE)) (mY : MthX P w K mg base C "byte" 4 ["self"] (spRY C CE)) (mR : MthX P w K mg base C "raw" 3 ["self", "many"] (spRR C CE))
    (mW : MthX P w K mg base C "whole" 5 ["self"] (spRW C CE)) (mS : MthX P w K mg base C "signs" 5 ["self"] (spRS C CE)) : Cl P w K mg base 6 "_law_told" (spLT C) := by
  obtain ⟨fT, fdT, MT, GT, bT⟩ := mT
  obtain ⟨fY, fdY, MY, GY, bY⟩ := mY
  obtain ⟨fR, fdR, MR, GR, bR⟩ := mR
  obtain ⟨fW, fdW, MW, GW, bW⟩ := mW
  obtain ⟨fS, fdS, MS, GS, bS⟩ := mS
  refine cl_of D scLT (fun vs H Q E h => ?_) (fun _ _ _ _ _ _ us hl => match us, hl with | [_, _], _ => rfl) (fun f cdv A outer s H vs Q E hr h => ?_)
  · obtain ⟨p, q, t0, row, i, x, rfl, _⟩ := h
    rfl
  · obtain ⟨p, q, t0, row, i, x, rfl, R, hi, hlr, hb8, hg, hw, k⟩ := h
    refine ⟨_, pss_one (ps_try_as (i := 2) (tb := fun W => bTold C CE W) (ts := cTold CE) (Wout := fun _ _ _ _ => False) rfl rfl scLT.nd rfl rfl ⟨rfl, by decide, Or.inl TE.gC⟩ takes0
      (fun W pn xe tk _ => pss_pre (pss_cons (ps_if (pt_cmpR op_eq (pe_ix ix_tup (pv 1) pe_int (fun _ _ => rfl)) pe_str (nomark _))
(pss_one (ps_ret (pe_tup (pa_cons (pe_methV (pv 0) TR.cl MT GT (hr.mono (by decide)) bT (fun σ => passAt tk σ) (pa_cons (pe_callB call_len_seq (by rfl) (by exact T.len) PySem.boot_len (pa_cons (pe_ix ix_tup (pv 1) pe_int (fun _ _ => rfl)) pa_nil)) (pa_cons (pe_ix ix_tup (pv 1) pe_int (fun _ _ => rfl)) pa_nil))) (pa_cons (pe_fld (pv 0) rfl) pa_nil)))))
pss_nil)
(pss_cons (ps_if (PW.pt (pw_and (pt_cmpR op_eq (pe_ix ix_tup (pv 1) pe_int (fun _ _ => rfl)) pe_str (nomark _)) (pw_and1 (pt_cmpR op_eq (pe_callB call_len_seq (by rfl) (by exact T.len) PySem.boot_len (pa_cons (pe_ix ix_tup (pv 1) pe_int (fun _ _ => rfl)) pa_nil)) pe_int (nomark _)))))
(pss_one (ps_ret (pe_tup (pa_cons (pe_tup (pa_cons (pe_meth0V (pv 0) TR.cl MY GY (hr.mono (by decide)) bY (fun σ => passAt tk σ)) pa_nil)) (pa_cons (pe_fld (pv 0) rfl) pa_nil)))))
pss_nil)
(pss_cons (ps_if (pt_cmpR op_eq (pe_ix ix_tup (pv 1) pe_int (fun _ _ => rfl)) pe_str (nomark _))
(pss_one (ps_ret (pe_tup (pa_cons (pe_methV (pv 0) TR.cl MR GR (hr.mono (by decide)) bR (fun σ => passAt tk σ) (pa_cons (pe_callB call_len_seq (by rfl) (by exact T.len) PySem.boot_len (pa_cons (pe_ix ix_tup (pv 1) pe_int (fun _ _ => rfl)) pa_nil)) pa_nil)) (pa_cons (pe_fld (pv 0) rfl) pa_nil)))))
pss_nil)
(pss_one (ps_ret (pe_tup (pa_cons (pe_ifExp (pt_cmpR op_eq (pe_ix ix_tup (pv 1) pe_int (fun _ _ => rfl)) pe_str (nomark _)) (pe_meth0V (pv 0) TR.cl MW GW (hr.mono (by decide)) bW (fun σ => passAt tk σ)) (pe_meth0V (pv 0) TR.cl MS GS (hr.mono (by decide)) bS (fun σ => passAt tk σ))) (pa_cons (pe_fld (pv 0) rfl) pa_nil)))))))) (fun D σ H hb => ?_))
      (fun a oe cls d pn hz hf => pss_pre (pss_one (ps_ret (pe_tup (pa_cons pe_non (pa_cons (pe_ifExp (pt_val (pe_callB (call_isD TL.ex hz hf) (by rfl) (by exact TL.isi) (by decide +kernel) (pa_cons (pv 2) (pa_cons (pe_glob rfl (by exact TL.gS) (v := .ref CS) rfl) pa_nil)))) (pe_xf TE.xf TE.nP hz hf (pv 2)) (pe_un un_neg pe_int)) pa_nil))))) (fun D σ H hb => ?_))), ?_⟩
    · obtain ⟨p, q, t0, row, i, x, rfl, R, hi, hlr, hb8, hg, hw, k1, k2⟩ := hb
      obtain ⟨dx, hp⟩ := R.ob
      cases x with
      | whole n =>
        have h0 : H t0 = some (.tup [.str "whole", nI n]) := hw
        have h1 : SqT K H t0 [.str "whole", nI n] := .inl (.inl h0)
        refine ⟨_, rfl, t0, _, _, _, rfl, rfl, h1, (by rfl), rfl, _, rfl, ?_⟩
        refine (if_neg (by decide +kernel)).mpr ?_
        refine ⟨_, rfl, t0, _, _, _, rfl, rfl, h1, (by rfl), rfl, _, rfl, ?_⟩
        refine (if_neg (by decide +kernel)).mpr ?_
        refine iteF ?_
        refine ⟨_, rfl, t0, _, _, _, rfl, rfl, h1, (by rfl), rfl, _, rfl, ?_⟩
        refine (if_neg (by decide +kernel)).mpr ?_
        refine ⟨_, rfl, t0, _, _, _, rfl, rfl, h1, (by rfl), rfl, _, rfl, ?_⟩
        refine (if_pos (by decide +kernel)).mpr ?_
        refine ⟨_, rfl, p, dx, _, rfl, hp, by rfl, p, q, row, i, rfl, R, hi, hlr, hb8, fun m c H' e B R' => ?_, fun e he d H' hE => ?_⟩
        · obtain ⟨dx2, hp2⟩ := R'.ob
          refine ⟨_, rfl, p, C, dx2, _, _, rfl, hp2, TR.cl, TR.nA, rfl, by show 2 ≤ sizeLine; decide, fun t ht => ?_⟩
          have er : rd row i (.whole n) = .whole m (i + c) := by show rdWhole row i = _; unfold rdWhole; rw [e]
          refine k1 t _ (B.trans (But.same (Same.new ht))) ?_ fun a ha => ?_
          · rw [er]
            exact upd_same
          · rw [er] at ha
            obtain rfl := Option.some.inj ha
            exact R'.same (Same.new ht)
        · exact k2 (i + e) (by show rdWhole row i = _; unfold rdWhole; rw [he]) d H' hE
      | signs z =>
        have h0 : H t0 = some (.tup [.str "signs", .str (txt z)]) := hw
        have h1 : SqT K H t0 [.str "signs", .str (txt z)] := .inl (.inl h0)
        refine ⟨_, rfl, t0, _, _, _, rfl, rfl, h1, (by rfl), rfl, _, rfl, ?_⟩
        refine (if_neg (by decide +kernel)).mpr ?_
        refine ⟨_, rfl, t0, _, _, _, rfl, rfl, h1, (by rfl), rfl, _, rfl, ?_⟩
        refine (if_neg (by decide +kernel)).mpr ?_
        refine iteF ?_
        refine ⟨_, rfl, t0, _, _, _, rfl, rfl, h1, (by rfl), rfl, _, rfl, ?_⟩
        refine (if_neg (by decide +kernel)).mpr ?_
        refine ⟨_, rfl, t0, _, _, _, rfl, rfl, h1, (by rfl), rfl, _, rfl, ?_⟩
        refine (if_neg (by decide +kernel)).mpr ?_
        refine ⟨_, rfl, p, dx, _, rfl, hp, by rfl, p, q, row, i, rfl, R, hi, hlr, hb8, fun m c H' e B R' => ?_, fun e he d H' hE => ?_⟩
        · obtain ⟨dx2, hp2⟩ := R'.ob
          refine ⟨_, rfl, p, C, dx2, _, _, rfl, hp2, TR.cl, TR.nA, rfl, by show 2 ≤ sizeLine; decide, fun t ht => ?_⟩
          have er : rd row i (.signs z) = .text m c := e
          refine k1 t _ (B.trans (But.same (Same.new ht))) ?_ fun a ha => ?_
          · rw [er]
            exact upd_same
          · rw [er] at ha
            obtain rfl := Option.some.inj ha
            exact R'.same (Same.new ht)
        · exact k2 e he d H' hE
      | bits ns w' =>
        obtain ⟨a1, h0, ha1⟩ := hw
        obtain ⟨hn, hw64, hnl⟩ := hg
        have h1 : SqT K H t0 [.str "bits", .ref a1, nI w'] := .inl (.inl h0)
        refine ⟨_, rfl, t0, _, _, _, rfl, rfl, h1, (by rfl), rfl, _, rfl, ?_⟩
        refine (if_pos (by decide +kernel)).mpr ?_
        refine ⟨_, rfl, p, dx, _, rfl, hp, by rfl, _, rfl, t0, _, _, _, rfl, rfl, h1, (by rfl), a1, _, rfl, .inl (.inl (.inl ha1)), _, rfl, t0, _, _, _, rfl, rfl, h1, (by rfl), p, q, row, i, ns.length, w', by rw [List.length_map], R, hi, hlr, hb8, by omega, hw64, fun m c l H' e B R' hl => ?_, fun e he d H' hE => ?_⟩
        · obtain ⟨dx2, hp2⟩ := R'.ob
          refine ⟨_, rfl, p, C, dx2, _, _, rfl, hp2, TR.cl, TR.nA, rfl, by show 2 ≤ sizeLine; decide, fun t ht => ?_⟩
          have er : rd row i (.bits ns w') = .nums m c := e
          refine k1 t _ (B.trans (But.same (Same.new ht))) ?_ fun a ha => ?_
          · rw [er]
            exact ⟨l, upd_same, by rw [upd_ne (ne_of_none hl ht)]; exact hl⟩
          · rw [er] at ha
            obtain rfl := Option.some.inj ha
            exact R'.same (Same.new ht)
        · exact k2 e he d H' hE
      | raw bs =>
        obtain ⟨a1, h0, ha1⟩ := hw
        have h1 : SqT K H t0 [.str "raw", .ref a1] := .inl (.inl h0)
        refine ⟨_, rfl, t0, _, _, _, rfl, rfl, h1, (by rfl), rfl, _, rfl, ?_⟩
        refine (if_neg (by decide +kernel)).mpr ?_
        refine ⟨_, rfl, t0, _, _, _, rfl, rfl, h1, (by rfl), rfl, _, rfl, ?_⟩
        refine (if_pos (by decide +kernel)).mpr ?_
        refine ⟨_, rfl, t0, _, _, _, rfl, rfl, h1, (by rfl), a1, _, rfl, .inl (.inl (.inl ha1)), rfl, _, rfl, ?_⟩
        refine ite2 (fun hc => ?_) (fun hc => ?_)
        · have hc : bs.length = 1 := by
            have := V.int.inj (of_decide_eq_true hc)
            rw [List.length_map] at this
            omega
          refine ⟨_, rfl, p, dx, _, rfl, hp, by rfl, p, q, row, i, rfl, R, fun b H' e B R' => ?_, fun he d H' hE => ?_⟩
          · have hil := (List.getElem?_eq_some_iff.mp e).1
            refine ⟨by show 1 ≤ sizeLine; decide, fun u hu => ?_⟩
            have s1 := Same.new (o := .tup [nI b]) hu
            have R1 := R'.same s1
            obtain ⟨dx2, hp2⟩ := R1.ob
            refine ⟨_, rfl, p, C, dx2, _, _, rfl, hp2, TR.cl, TR.nA, rfl, by show 2 ≤ sizeLine; decide, fun t ht => ?_⟩
            have er : rd row i (.raw bs) = .bytes [b] (i + 1) := by
              show rdRaw row i bs.length = _
              unfold rdRaw
              rw [hc, if_neg (by omega), List.drop_eq_getElem_cons hil]
              have e2 : row[i] = b := (List.getElem?_eq_some_iff.mp e).2
              rw [e2]
              rfl
            refine k1 t _ (B.trans (But.same (s1.trans (Same.new ht)))) ?_ fun a ha => ?_
            · rw [er]
              exact ⟨u, upd_same, by rw [upd_ne (ne_of_none upd_same ht)]; exact upd_same⟩
            · rw [er] at ha
              obtain rfl := Option.some.inj ha
              exact R1.same (Same.new ht)
          · refine k2 row.length ?_ d H' hE
            show rdRaw row i bs.length = _
            unfold rdRaw
            rw [hc, if_pos (by omega)]
        · refine ⟨_, rfl, t0, _, _, _, rfl, rfl, h1, (by rfl), rfl, _, rfl, ?_⟩
          refine (if_pos (by decide +kernel)).mpr ?_
          refine ⟨_, rfl, p, dx, _, rfl, hp, by rfl, _, rfl, t0, _, _, _, rfl, rfl, h1, (by rfl), a1, _, rfl, .inl (.inl (.inl ha1)), p, q, row, i, bs.length, by rw [List.length_map], R, hi, hlr, fun m c l H' e B R' hl => ?_, fun e he d H' hE => ?_⟩
          · obtain ⟨dx2, hp2⟩ := R'.ob
            refine ⟨_, rfl, p, C, dx2, _, _, rfl, hp2, TR.cl, TR.nA, rfl, by show 2 ≤ sizeLine; decide, fun t ht => ?_⟩
            have er : rd row i (.raw bs) = .bytes m c := e
            refine k1 t _ (B.trans (But.same (Same.new ht))) ?_ fun a ha => ?_
            · rw [er]
              exact ⟨l, upd_same, by rw [upd_ne (ne_of_none hl ht)]; exact hl⟩
            · rw [er] at ha
              obtain rfl := Option.some.inj ha
              exact R'.same (Same.new ht)
          · exact k2 e he d H' hE
    · obtain ⟨dd, k', rfl, rfl, hs, hd, kk⟩ := hb
      refine ⟨_, hs, _, .ref CS, _, dd, _, rfl, rfl, rfl, hd, (fun u hu => hu), TL.kt, _, rfl, ?_⟩
      refine (if_pos rfl).mpr ?_
      refine ⟨_, hs, rfl, rfl, dd, _, _, rfl, hd, (by rfl), by show 2 ≤ sizeLine; decide, fun t ht => kk t ht⟩
    · refine ⟨p, q, t0, row, i, x, rfl, R, hi, hlr, hb8, hg, hw, fun t H' B hT hn => k t H' B hT hn, fun e he d H' hE => ?_⟩
      obtain ⟨s1, hd0, hd⟩ := hE
      refine ⟨true, TE.te, fun _ a ha => ⟨d, e, rfl, rfl, rfl, hd, fun t ht => ?_⟩, fun z => by cases z⟩
      refine k t _ (But.same (s1.trans (Same.new ht))) ?_ fun a ha => ?_
      · rw [he]
        exact upd_same
      · rw [he] at ha
        cases ha
end
end Wq

set_option Elab.async false
set_option linter.all false
set_option maxRecDepth 100000
set_option maxHeartbeats 2000000
set_option exponentiation.threshold 5000
namespace Wq
open PySem PySem.Spec PyProof.Rows L2
open Rb (wh le un val Bp Wr rwa fb rdWhole rdSigns rdBits rdRaw rd Res many cutN)
def iD (n : Nat) : PyData := .int (n : Int)
def dRes : Res → PyData
  | .err k => .tuple [.none, iD k]
  | .whole n a => .tuple [iD n, iD a]
  | .text z a => .tuple [.str (txt z), iD a]
  | .nums ns a => .tuple [.list (ns.map iD), iD a]
  | .bytes bs a => .tuple [.tuple (bs.map iD), iD a]
theorem Dp_ints {K : PySem.W.Frag} {H : Hp} (ns : List Nat) : DpAll K H (ns.map nI) (ns.map iD) := by
  induction ns with
  | nil => exact .nil
  | cons n r ih => exact .cons (.int _) ih
theorem Dp_res {K : PySem.W.Frag} {H : Hp} {t : Addr} {r : Res} (h : TupR H t r) : Dp K H (.ref t) (dRes r) := by
  cases r with
  | err k => exact .tup (.inl (.inl h)) (.cons .non (.cons (.int _) .nil))
  | whole n a => exact .tup (.inl (.inl h)) (.cons (.int _) (.cons (.int _) .nil))
  | text z a => exact .tup (.inl (.inl h)) (.cons (.str _) (.cons (.int _) .nil))
  | nums ns a =>
    obtain ⟨l, h1, h2⟩ := h
    exact .tup (.inl (.inl h1)) (.cons (.lst (.inl (.inl h2)) (Dp_ints ns)) (.cons (.int _) .nil))
  | bytes bs a =>
    obtain ⟨l, h1, h2⟩ := h
    exact .tup (.inl (.inl h1)) (.cons (.tup (.inl (.inl h2)) (Dp_ints bs)) (.cons (.int _) .nil))
theorem sgn_lt (i : Nat) : sgn i < 128 := by
  unfold sgn
  have h : ∀ c ∈ SG.cps.toList, c < 128 := by decide +kernel
  rw [List.getD_eq_getElem?_getD]
  cases e : SG.cps.toList[i]? with
  | none => decide
  | some c => exact h c (List.mem_of_getElem? e)
theorem lay_ints (ns : List Nat) : PyData.canLayAll0 (ns.map iD) = true ∧ PyData.depthAll (ns.map iD) = 0 := by
  have e : ns.map iD = (ns.map Int.ofNat).map PyData.int := by rw [List.map_map]; rfl
  rw [e]
  exact ⟨PySem.W.ke_canLayAll0 _, PySem.W.ke_depthAll _⟩
theorem shaped_res (r : Res) : SeqAt.shaped (dRes r) = true := by
  cases r with
  | err k => rfl
  | whole n a => rfl
  | text z a =>
    have hs : PyData.strOk (txt z) = true := by
      simp [PyData.strOk, txt]
      intro x _
      have := sgn_lt x
      omega
    simp [dRes, iD, SeqAt.shaped, PyData.canLay0, PyData.canLayAll0, PyData.depth, PyData.depthAll, hs]
  | nums ns a =>
    obtain ⟨h1, h2⟩ := lay_ints ns
    simp [dRes, iD, SeqAt.shaped, PyData.canLay0, PyData.canLayAll0, PyData.depth, PyData.depthAll]
    exact ⟨h1, by omega⟩
  | bytes ns a =>
    obtain ⟨h1, h2⟩ := lay_ints ns
    simp [dRes, iD, SeqAt.shaped, PyData.canLay0, PyData.canLayAll0, PyData.depth, PyData.depthAll]
    exact ⟨h1, by omega⟩
theorem same_res (r : Res) : PyData.eqv (dRes r) (dRes r) = true := SeqAt.eqv_refl _ (SeqAt.canLay_of_shaped (shaped_res r))
theorem hu64 {A : Around} {k : Nat} (hr : Room k A) : A.units + 64 < cLine := by
  have := hr.un
  omega
theorem TupR.none {H : Hp} {t : Addr} {r : Res} (h : TupR H t r) (e : nxt r = none) : ∃ k, H t = some (.tup [.non, nI k]) := by
  cases r with
  | err k => exact ⟨k, h⟩
  | whole n a => cases e
  | text z a => cases e
  | nums ns a => cases e
  | bytes bs a => cases e
theorem TupR.some {H : Hp} {t a : Addr} {r : Res} (h : TupR H t r) (e : nxt r = some a) : ∃ v, v ≠ V.non ∧ H t = some (.tup [v, nI a]) := by
  cases r with
  | err k => cases e
  | whole n b => obtain rfl := Option.some.inj e; exact ⟨_, (fun z => by cases z), h⟩
  | text z b => obtain rfl := Option.some.inj e; exact ⟨_, (fun z => by cases z), h⟩
  | nums ns b => obtain rfl := Option.some.inj e; obtain ⟨l, h1, _⟩ := h; exact ⟨_, (fun z => by cases z), h1⟩
  | bytes bs b => obtain rfl := Option.some.inj e; obtain ⟨l, h1, _⟩ := h; exact ⟨_, (fun z => by cases z), h1⟩
theorem rd_le {row : List Nat} {i a : Nat} {x : Wr} (hi : i ≤ row.length) (e : nxt (rd row i x) = some a) : a ≤ row.length := by
  cases x with
  | whole n =>
    have e : nxt (rdWhole row i) = some a := e
    unfold rdWhole at e
    cases h : rwa (row.drop i) 0 0 with
    | err k => rw [h] at e; cases e
    | ok m c =>
      rw [h] at e
      obtain rfl := Option.some.inj e
      have := Rb.rwa_ok h
      rw [List.length_drop] at this
      omega
  | signs z =>
    have e : nxt (rdSigns row i) = some a := e
    unfold rdSigns at e
    cases h : rwa (row.drop i) 0 0 with
    | err k => rw [h] at e; cases e
    | ok m c =>
      rw [h] at e
      dsimp only at e
      cases h2 : fb ((row.drop (i + c)).take m) with
      | some k => rw [h2] at e; cases e
      | none =>
        rw [h2] at e
        dsimp only at e
        by_cases h3 : row.length < i + c + m
        · rw [if_pos h3] at e; cases e
        · rw [if_neg h3] at e
          obtain rfl := Option.some.inj e
          omega
  | bits ns w' =>
    have e : nxt (rdBits row i ns.length w') = some a := e
    unfold rdBits at e
    by_cases h3 : row.length < i + many ns.length w'
    · rw [if_pos h3] at e; cases e
    · rw [if_neg h3] at e
      split at e
      · cases e
      · obtain rfl := Option.some.inj e
        omega
  | raw bs =>
    have e : nxt (rdRaw row i bs.length) = some a := e
    unfold rdRaw at e
    by_cases h3 : row.length < i + bs.length
    · rw [if_pos h3] at e; cases e
    · rw [if_neg h3] at e
      obtain rfl := Option.some.inj e
      omega
abbrev sLI : Stmt := top 19
abbrev NLI : List Str := ["_law_row_here", "_law_writings", "_law_reader", "_law_at", "_law_writing_here", "_law_due"]
theorem scLI : FnScope NLI ["_law_row_here", "_law_writings"] (defScope sLI) := ⟨rfl, rfl, rfl, by decide +kernel, rfl, by decide +kernel, by decide +kernel⟩
/-- the writings of a list -/
def Wrts (H : Hp) (ws : List V) : Prop := ∀ (i : Nat) (v : V), ws[i]? = some v → ∃ (t : Addr) (x : Wr), v = .ref t ∧ gd x ∧ Wrt H t x
def spLI (K : PySem.W.Frag) : Sp := fun vs H Q _ => ∃ (a b : Addr) (row : List Nat) (ws : List V), vs = [.ref a, .ref b] ∧ H a = some (.lst (row.map nI)) ∧ H b = some (.lst ws) ∧ (∀ b ∈ row, b < 256) ∧ row.length ≤ 100000 ∧ Wrts H ws ∧
  ∀ H', Same H H' → Q (.bl true) H'
/-- the class at C is made by its __init__ -/
def MadeX (P : Program) (w : World) (K : PySem.W.Frag) (mg : Str → Option Value) (base : Heap) (C : Addr) (x : Str) (ps : List Str) (sp : Sp) : Prop :=
  ∃ f fd, Mk K C f ∧ FnOk P w K mg base CX0 1 f fd ps sp ∧ mg x = some (.ref C) ∧ Binds K fd ps []
section
variable {P : Program} {w : World} {K : PySem.W.Frag} {mg : Str → Option Value} {base : Heap} {C : Addr}
theorem ok_LI (D : DefAt K mg "_law_is_read" sLI) (T : Txt K mg) (TR : TxtR K mg C) (mk : MadeX P w K mg base C "RowReader" ["self", "row"] (spRI C)) (CR : Cl P w K mg base 2 "_law_read" (spLR K)) (CT : Cl P w K mg base 6 "_law_told" (spLT C)) :
    Cl P w K mg base 7 "_law_is_read" (spLI K) := by
  obtain ⟨fI, fdI, M, GI, hmg, bI⟩ := mk
  refine cl_of D scLI (fun vs H Q E h => ?_) (fun _ _ _ _ _ _ us hl => match us, hl with | [_, _], _ => rfl) (fun f cdv A outer s H vs Q E hr h => ?_)
  · obtain ⟨a, b, row, ws, rfl, _⟩ := h
    rfl
  · obtain ⟨a, b, row, ws, rfl, ha, hb, hb8, hlr, hW, k⟩ := h
    refine ⟨_, pss_cons (ps_par (i := 2) (j := 3) (by rfl) scLI.nd rfl rfl (by decide) rfl rfl  (pa_cons (pe_make M GI (hr.mono (by decide)) rfl hmg bI .nil pass0 (pa_cons (pe_callTy call_tuple_of (by rfl) (by exact T.tuple) (by decide +kernel) (pa_cons (pv 0) pa_nil)) pa_nil)) (pa_cons pe_int pa_nil)) (by rfl))
(pss_cons (ps_for PassesOwn.never rfl (pi_list (pv 1)) (pg_name (i := 4) scLI.nd rfl (Or.inl rfl))
(pss_cons (ps_set (i := 5) scLI.nd rfl (Or.inl rfl) (pe_cl CR hr (by decide) rfl (pa_cons (pv 0) (pa_cons (pv 3) (pa_cons (pv 4) pa_nil)))))
(pss_cons (ps_if (pt_cmpR (op_neD (hu64 hr)) (pe_cl CT hr (by decide) rfl (pa_cons (pv 2) (pa_cons (pv 4) pa_nil))) (pv 5) (nomark _))
(pss_one (ps_ret pe_bl))
pss_nil)
(pss_cons (ps_if (pt_cmpR op_isN (pe_ix ix_tup (pv 5) pe_int (fun _ _ => rfl)) pe_non (nomark _))
(pss_one (ps_ret pe_bl))
pss_nil)
(pss_one (ps_set (i := 3) scLI.nd rfl (Or.inl rfl) (pe_ix ix_tup (pv 5) pe_int (fun _ _ => rfl))))))))
(pss_one (ps_ret (pe_cmpR op_eq (pe_fld (pv 2) rfl) (pe_cmpR op_eq (pv 3) (pe_callB call_len_seq (by rfl) (by exact T.len) PySem.boot_len (pa_cons (pv 0) pa_nil)) (nomark _)) (nomark _))))), ?_⟩
    refine ⟨_, rfl, a, _, rfl, .inl ⟨.inl (.inl ha), fun q hq p dx hp hdx hne => ?_⟩⟩
    have s1 := Same.new (o := .tup (row.map nI)) hq
    have hpH : H p = none := s1.free hp
    have hpq : q ≠ p := ne_of_none upd_same hp
    have hdq : q ≠ dx := ne_of_none upd_same hdx
    have s2 : Same H (upd (upd (upd H q (.tup (row.map nI))) dx (.own p)) p (.ins C dx [])) := Same.put (Same.put s1 (s1.free hdx)) hpH
    refine ⟨p, dx, q, row, rfl, upd_same, by rw [upd_ne hpq, upd_ne hdq]; exact upd_same, fun H2 B R => ⟨rfl, ?_⟩⟩
    have s3 : Same H H2 := fun b o e => B b o (s2 b o e) (ne_of_none e hpH)
    refine ⟨_, _, rfl, _, rfl, b, rfl, ⟨_, .inl (.inl (s3 _ _ hb))⟩, for_list (K := K) (a := b) (xs := ws) (fun i σ G => ∃ (x4 x5 : Option V) (pos : Nat), σ = [some (.ref a), some (.ref b), some (.ref p), some (nI pos), x4, x5] ∧ Same H G ∧ RAt C G p q row pos ∧ pos ≤ row.length)
      ⟨none, none, 0, rfl, s3, R, Nat.zero_le _⟩ (fun i σ G _ ⟨_, _, _, _, s, _⟩ => .inl (.inl (s _ _ hb))) ?_ ?_⟩
    · rintro i y σ G hi ⟨x4, x5, pos, rfl, sm, R, hpos⟩
      obtain ⟨t0, x, rfl, hg, hw⟩ := hW i y hi
      refine ⟨_, rfl, _, rfl, _, rfl, a, t0, row, pos, x, rfl, sm _ _ ha, hb8, hpos, hlr, hg, hw.same sm, fun t1 G1 nt1 sG1 hT1 => ?_⟩
      have sm1 := sm.trans sG1
      have R1 := R.same sG1
      obtain ⟨dx1, hp1⟩ := R1.ob
      refine ⟨_, rfl, _, rfl, p, q, t0, row, pos, x, rfl, R1, hpos, hlr, hb8, hg, hw.same sm1, fun t2 G2 B2 hT2 hn2 => ?_⟩
      have hT1' : TupR G2 t1 (rd row pos x) := hT1.but B2 hp1 (by intro xs z; cases z) (by intro xs z; cases z)
      have sm2 : Same H G2 := fun b o e => B2 b o (sm1 b o e) (ne_of_none e hpH)
      refine ⟨_, rfl, _, _, Dp_res hT2, Dp_res hT1', shaped_res _, shaped_res _, _, rfl, ?_⟩
      refine (if_neg (by rw [same_res]; decide)).mpr ?_
      cases e : nxt (rd row pos x) with
      | none =>
        obtain ⟨kk, hk⟩ := hT1'.none e
        refine ⟨_, rfl, t1, _, _, _, rfl, rfl, .inl (.inl hk), (by rfl), rfl, _, rfl, ?_⟩
        refine (if_pos (decide_eq_true rfl)).mpr ?_
        exact k G2 sm2
      | some a' =>
        obtain ⟨v, hv, hk⟩ := hT1'.some e
        refine ⟨_, rfl, t1, _, _, _, rfl, rfl, .inl (.inl hk), (by rfl), rfl, _, rfl, ?_⟩
        refine (if_neg (by rw [decide_eq_false hv]; decide)).mpr ?_
        refine ⟨_, rfl, t1, _, _, _, rfl, rfl, .inl (.inl hk), (by rfl), ?_⟩
        exact ⟨_, _, a', rfl, sm2, hn2 a' e, rd_le hpos e⟩
    · rintro σ G ⟨x4, x5, pos, rfl, sm, R, hpos⟩
      obtain ⟨dx1, hp1⟩ := R.ob
      refine ⟨_, rfl, p, C, dx1, _, _, rfl, hp1, TR.cl, TR.nD, rf_done _ _ _, _, rfl, _, rfl, a, _, rfl, .inl (.inl (.inl (sm _ _ ha))), rfl, rfl, ?_⟩
      have e : decide (V.bl (pos == row.length) = V.bl (decide (nI pos = V.int (((row.map nI).length : Nat) : Int)))) = true := by
        rw [List.length_map]
        refine decide_eq_true (congrArg V.bl ?_)
        by_cases h : pos = row.length
        · rw [h]
          simp
        · have e1 : (pos == row.length) = false := by simp [h]
          rw [e1]
          exact (decide_eq_false fun z => h (Int.ofNat_inj.mp (V.int.inj z))).symm
      have kk := k G sm
      rw [← e] at kk
      exact kk
end
end Wq

set_option Elab.async false
set_option linter.all false
set_option maxRecDepth 100000
set_option maxHeartbeats 4000000
set_option exponentiation.threshold 5000
namespace Wq
open PySem PySem.Spec PyProof.Rows L2
open Rb (wh le un val Bp Wr)
/-- a writing whose list is not the one at D -/
def WrtD (D : Addr) (H : Hp) (t : Addr) : Wr → Prop
  | .whole n => H t = some (.tup [.str "whole", nI n])
  | .signs s => H t = some (.tup [.str "signs", .str (txt s)])
  | .bits ns w => ∃ a, a ≠ D ∧ H t = some (.tup [.str "bits", .ref a, nI w]) ∧ H a = some (.lst (ns.map nI))
  | .raw bs => ∃ a, a ≠ D ∧ H t = some (.tup [.str "raw", .ref a]) ∧ H a = some (.lst (bs.map nI))
theorem WrtD.keep {D : Addr} {H H' : Hp} {t : Addr} {x : Wr} (h : WrtD D H t x) (f1 : ∀ b xs, H b = some (.tup xs) → H' b = some (.tup xs)) (f2 : ∀ b xs, b ≠ D → H b = some (.lst xs) → H' b = some (.lst xs)) : WrtD D H' t x := by
  cases x with
  | whole n => exact f1 _ _ h
  | signs z => exact f1 _ _ h
  | bits ns w' => obtain ⟨a, h0, h1, h2⟩ := h; exact ⟨a, h0, f1 _ _ h1, f2 _ _ h0 h2⟩
  | raw bs => obtain ⟨a, h0, h1, h2⟩ := h; exact ⟨a, h0, f1 _ _ h1, f2 _ _ h0 h2⟩
theorem WrtD.wrt {D : Addr} {H : Hp} {t : Addr} {x : Wr} (h : WrtD D H t x) : Wrt H t x := by
  cases x with
  | whole n => exact h
  | signs z => exact h
  | bits ns w' => obtain ⟨a, h0, h1, h2⟩ := h; exact ⟨a, h1, h2⟩
  | raw bs => obtain ⟨a, h0, h1, h2⟩ := h; exact ⟨a, h1, h2⟩
theorem WrtN.off {D : Addr} {H H' : Hp} {t : Addr} {x : Wr} {o : HO} (h : WrtN H H' t x) (hD : H D = some o) : WrtD D H' t x := by
  cases x with
  | whole n => exact h
  | signs z => exact h
  | bits ns w' => obtain ⟨a, h0, h1, h2⟩ := h; exact ⟨a, (fun z => by rw [z, hD] at h0; cases h0), h1, h2⟩
  | raw bs => obtain ⟨a, h0, h1, h2⟩ := h; exact ⟨a, (fun z => by rw [z, hD] at h0; cases h0), h1, h2⟩
theorem Wrt.but {p : Addr} {H H' : Hp} {t : Addr} {x : Wr} {kvs : List (Key × V)} (h : Wrt H t x) (B : But p H H') (hp : H p = some (.dK kvs)) : Wrt H' t x := by
  have f1 : ∀ b xs, H b = some (.tup xs) → H' b = some (.tup xs) := fun b xs e => B _ _ e (ne_of e hp (by intro z; cases z))
  have f2 : ∀ b xs, H b = some (.lst xs) → H' b = some (.lst xs) := fun b xs e => B _ _ e (ne_of e hp (by intro z; cases z))
  cases x with
  | whole n => exact f1 _ _ h
  | signs z => exact f1 _ _ h
  | bits ns w' => obtain ⟨a, h1, h2⟩ := h; exact ⟨a, f1 _ _ h1, f2 _ _ h2⟩
  | raw bs => obtain ⟨a, h1, h2⟩ := h; exact ⟨a, f1 _ _ h1, f2 _ _ h2⟩
def WrtsD (D : Addr) (H : Hp) (ws : List V) : Prop := ∀ (i : Nat) (v : V), ws[i]? = some v → ∃ (t : Addr) (x : Wr), v = .ref t ∧ gd x ∧ WrtD D H t x
theorem WrtsD.keep {D : Addr} {H H' : Hp} {ws : List V} (h : WrtsD D H ws) (f1 : ∀ b xs, H b = some (.tup xs) → H' b = some (.tup xs)) (f2 : ∀ b xs, b ≠ D → H b = some (.lst xs) → H' b = some (.lst xs)) : WrtsD D H' ws := fun i v e => by
  obtain ⟨t, x, e1, g, w⟩ := h i v e
  exact ⟨t, x, e1, g, w.keep f1 f2⟩
theorem WrtsD.snoc {D : Addr} {H : Hp} {ws : List V} {t : Addr} {x : Wr} (h : WrtsD D H ws) (g : gd x) (w : WrtD D H t x) : WrtsD D H (ws ++ [.ref t]) := fun i v e => by
  by_cases hi : i < ws.length
  · rw [List.getElem?_append_left hi] at e
    exact h i v e
  · rw [List.getElem?_append_right (by omega)] at e
    cases hk : i - ws.length with
    | zero => rw [hk] at e; exact ⟨t, x, (Option.some.inj e).symm, g, w⟩
    | succ k => rw [hk] at e; cases e
theorem WrtsD.wrts {D : Addr} {H : Hp} {ws : List V} (h : WrtsD D H ws) : Wrts H ws := fun i v e => by
  obtain ⟨t, x, e1, g, w⟩ := h i v e
  exact ⟨t, x, e1, g, w.wrt⟩
theorem Wrts.but {p : Addr} {H H' : Hp} {ws : List V} {kvs : List (Key × V)} (h : Wrts H ws) (B : But p H H') (hp : H p = some (.dK kvs)) : Wrts H' ws := fun i v e => by
  obtain ⟨t, x, e1, g, w⟩ := h i v e
  exact ⟨t, x, e1, g, w.but B hp⟩
theorem PenAt.keep {H H' : Hp} {p c l : Addr} {m : Nat} (h : PenAt H p c m) (B : But l H H') (hp : p ≠ l) (hc : c ≠ l) : PenAt H' p c m := by
  obtain ⟨ns, i, d, f, n, h1, h2, h3⟩ := h.ex
  exact ⟨ns, i, d, f, n, B _ _ h1 hp, B _ _ h2 hc, h3⟩
theorem row_ok {x : Wr} (h : gd x) : (∀ b ∈ Rb.row x, b < 256) ∧ (Rb.row x).length ≤ 250 := by
  cases x with
  | whole n =>
    have h : n < 2 ^ 200 := h
    refine ⟨Rb.wh_lt n, ?_⟩
    have := wh_len n 30 (Nat.lt_of_lt_of_le h (pow128 30 200 (by decide))) (by decide)
    show (wh n).length ≤ 250
    omega
  | signs z =>
    obtain ⟨h1, h2⟩ := h
    have hwl : (wh z.length).length ≤ 2 := wh_len _ 2 (by show z.length < 16384; omega) (by decide)
    refine ⟨fun b hb => ?_, ?_⟩
    · rcases List.mem_append.mp hb with hb | hb
      · exact Rb.wh_lt _ b hb
      · have := h1 b hb
        omega
    · show (wh z.length ++ z).length ≤ 250
      rw [List.length_append]
      omega
  | bits ns w' =>
    obtain ⟨h1, h2, h3⟩ := h
    refine ⟨Rb.le_lt _ _, ?_⟩
    show (le _ _).length ≤ 250
    rw [Rb.le_len]
    have : w' * ns.length ≤ 64 * 8 := Nat.mul_le_mul h2 h3
    omega
  | raw bs => exact ⟨h.1, by have := h.2; show bs.length ≤ 250; omega⟩
theorem cut_nats (row : List Nat) (lo hi : Option Int) : ∃ r : List Nat, cutV (row.map nI) lo hi = r.map nI ∧ (∀ x ∈ r, x ∈ row) ∧ r.length ≤ row.length := by
  unfold cutV
  refine ⟨(row.drop _).take _, by rw [List.map_take, List.map_drop], fun x hx => List.mem_of_mem_drop (List.mem_of_mem_take hx), ?_⟩
  rw [List.length_take, List.length_drop]
  omega
theorem read_cut {K : PySem.W.Frag} {σ : L2.St} {H : Hp} {Q : VK} {pr : Addr} {row : List Nat} {lo hi : TO} (h5 : σ[5]? = some (some (.ref pr))) (hp : H pr = some (.lst (row.map nI)))
    (hlo : ∀ Q : Option Int → Hp → Prop, (∀ x, Q x H) → lo σ H Q) (hhi : ∀ Q : Option Int → Hp → Prop, (∀ x, Q x H) → hi σ H Q)
    (k : ∀ (q : Addr) (r' : List Nat) (H' : Hp), Same H H' → H' q = some (.lst (r'.map nI)) → (∀ b ∈ r', b ∈ row) → r'.length ≤ row.length → Q (.ref q) H') : tSl (rSlL K) (tVar 5) lo hi σ H Q := by
  refine ⟨_, h5, hlo _ fun x => hhi _ fun y => ⟨pr, _, rfl, .inl (.inl hp), fun q hq => ?_⟩⟩
  obtain ⟨r, e, hm, hl⟩ := cut_nats row x y
  exact k q r _ (Same.new hq) (by rw [upd_same, e]) hm hl
theorem read_bent {K : PySem.W.Frag} {σ : L2.St} {H : Hp} {Q : VK} {pr : Addr} {row : List Nat} {b : Nat} {lo : TO} {v7 : Int} (h5 : σ[5]? = some (some (.ref pr))) (h7 : σ[7]? = some (some (.int v7))) (h8 : σ[8]? = some (some (nI b))) (hb : b < 256)
    (hp : H pr = some (.lst (row.map nI))) (h256 : ∀ b ∈ row, b < 256) (hl : row.length ≤ 10000) (hlo : ∀ (H : Hp) (Q : Option Int → Hp → Prop), (∀ x, Q x H) → lo σ H Q)
    (k : ∀ (q : Addr) (r' : List Nat) (H' : Hp), Same H H' → H' q = some (.lst (r'.map nI)) → (∀ b ∈ r', b < 256) → r'.length ≤ 100000 → Q (.ref q) H') :
    tOp rCat (tOp rCat (tSl (rSlL K) (tVar 5) tNoPart (tPart (tVar 7))) (tLst (tCons (tVar 8) tNil))) (tSl (rSlL K) (tVar 5) lo tNoPart) σ H Q := by
  refine read_cut h5 hp (fun Q q => q none) (fun Q q => ⟨_, h7, _, rfl, q _⟩) fun q1 r1 H1 s1 e1 m1 l1 => ?_
  refine ⟨_, h8, by show 1 ≤ sizeLine; decide, fun q2 hq2 => ?_⟩
  have s2 := Same.new (o := .lst [nI b]) hq2
  refine ⟨q1, q2, _, _, rfl, rfl, s2 _ _ e1, upd_same, by show _ + 1 ≤ sizeLine; rw [List.length_map, sizeLine_eq]; omega, fun q3 hq3 => ?_⟩
  have s3 := Same.new (o := .lst (r1.map nI ++ [nI b])) hq3
  have s13 := (s1.trans s2).trans s3
  refine read_cut h5 (s13 _ _ hp) (fun Q q => hlo _ Q q) (fun Q q => q none) fun q4 r4 H4 s4 e4 m4 l4 => ?_
  refine ⟨q3, q4, _, _, rfl, rfl, s4 _ _ upd_same, e4, ?_, fun q5 hq5 => ?_⟩
  · rw [List.length_append, List.length_map, List.length_map, sizeLine_eq]
    show r1.length + 1 + r4.length ≤ _
    omega
  · refine k q5 (r1 ++ [b] ++ r4) _ ((s13.trans s4).trans (Same.new hq5)) ?_ ?_ ?_
    · rw [upd_same, List.map_append, List.map_append]
      rfl
    · intro x hx
      rcases List.mem_append.mp hx with hx | hx
      · rcases List.mem_append.mp hx with hx | hx
        · exact h256 x (m1 x hx)
        · rw [List.mem_singleton.mp hx]
          exact hb
      · exact h256 x (m4 x hx)
    · rw [List.length_append, List.length_append]
      show r1.length + 1 + r4.length ≤ _
      omega
abbrev sLaw : Stmt := top 20
abbrev NLaw : List Str := ["_law_script", "_law_pen_here", "_law_turn", "_law_writings", "_law_writer", "_law_row_here", "_law_writing_here", "_law_at", "_law_byte", "_law_one", "_law_k"]
theorem scLaw : FnScope NLaw ["_law_script"] (defScope sLaw) := ⟨rfl, rfl, rfl, by decide +kernel, rfl, by decide +kernel, by decide +kernel⟩
def spLaw (K : PySem.W.Frag) : Sp := fun vs H Q _ => ∃ (a : Addr) (ns : List Int), vs = [.ref a] ∧ SqL K H a (ns.map V.int) ∧ ∀ H', Q (.bl true) H'
/-- a method that lets nothing out -/
def MthZ (P : Program) (w : World) (K : PySem.W.Frag) (mg : Str → Option Value) (base : Heap) (C : Addr) (m : Str) (k : Nat) (ps : List Str) (sp : Sp) : Prop :=
  ∃ f fd, Meth K C m f ∧ FnOk P w K mg base CX0 k f fd ps sp ∧ Binds K fd ps []
section
variable {P : Program} {w : World} {K : PySem.W.Frag} {mg : Str → Option Value} {base : Heap} {CW : Addr}
structure ClsL (P : Program) (w : World) (K : PySem.W.Frag) (mg : Str → Option Value) (base : Heap) : Prop where
  pen : Cl P w K mg base 1 "_law_pen" (spPen K)
  draw : Cl P w K mg base 1 "_law_draw" (spDraw K)
  writing : Cl P w K mg base 3 "_law_writing" spWriting
  row : Cl P w K mg base 2 "_law_row" spRow
  isRead : Cl P w K mg base 7 "_law_is_read" (spLI K)
theorem ok_law {fa : Addr} {fd : FuncData} (F : Fun K "law" "law" sLaw fa fd) (T : Txt K mg) (TW : TxtW K mg CW) (C : ClsL P w K mg base) (mk : MadeX P w K mg base CW "Writer" ["self"] (spWI CW))
    (mA : MthZ P w K mg base CW "all_bytes" 1 ["self"] (spWA CW)) (mW : MthZ P w K mg base CW "whole" 1 ["self", "number"] (spWW CW)) (mS : MthZ P w K mg base CW "signs" 2 ["self", "text"] (spWS CW))
    (mB : MthZ P w K mg base CW "bits" 1 ["self", "numbers", "width"] (spWB K CW)) (mR : MthZ P w K mg base CW "raw" 1 ["self", "row"] (spWR K CW)) : FnOk P w K mg base CX0 8 fa fd ["_law_script"] (spLaw K) := by
  obtain ⟨fI, fdI, MI, GI, gI, bI⟩ := mk
  obtain ⟨fA, fdA, MA, GA, bA⟩ := mA
  obtain ⟨fW, fdW, MW, GW, bW⟩ := mW
  obtain ⟨fS, fdS, MS, GS, bS⟩ := mS
  obtain ⟨fB, fdB, MB, GB, bB⟩ := mB
  obtain ⟨fR, fdR, MR, GR, bR⟩ := mR
  refine F.ok scLaw (fun vs H Q E h => ?_) (fun cdv A outer s H vs Q E hr h => ?_)
  · obtain ⟨a, ns, rfl, _⟩ := h
    rfl
  · obtain ⟨a, ns, rfl, hS, k⟩ := h
    refine ⟨_, pss_cons (ps_set (i := 1) scLaw.nd rfl (Or.inr rfl) (pe_cl C.pen hr (by decide) rfl (pa_cons (pv 0) pa_nil)))
(pss_cons (ps_for PassesOwn.never rfl (pi_range1 rfl (by exact T.range) (pa_cons pe_int pa_nil)) (pg_name (i := 2) scLaw.nd rfl (Or.inl rfl))
(C8.pss_cut (ps_par3 (i := 3) (j := 4) (l := 5) (by rfl) scLaw.nd rfl rfl rfl (by decide) (by decide) (by decide) rfl rfl rfl  (pa_cons (pe_lc (own := [("_law_k", 10)]) (g := gName 10) (tt := tYes) (te := tCall spWriting [] E0 (tCons (tVar 1) tNil)) (by rfl) scLaw.nd (pi_range1 rfl (by exact T.range) (pa_cons (pe_op op_add pe_int (pe_cl C.draw hr (by decide) rfl (pa_cons (pv 1) (pa_cons pe_int pa_nil)))) pa_nil)) (blkOk_by (own := [("_law_k", 10)]) (N := NLaw) (sc := defScope sLaw) (by decide +kernel)) (fun _ _ _ _ _ => (pg_name (i := 10) scLaw.nd rfl (Or.inl rfl))) (fun _ _ _ _ _ => pts_nil) (fun _ _ _ _ _ => (pe_cl C.writing hr (by decide) rfl (pa_cons (pv 1) pa_nil)))) (pa_cons (pe_make0 MI GI (hr.mono (by decide)) rfl gI bI .nil pass0) (pa_cons (pe_lst pa_nil) pa_nil))) (by rfl))
(C8.pss_cut (ps_for PassesOwn.never rfl (pi_list (pv 3)) (pg_name (i := 6) scLaw.nd rfl (Or.inl rfl))
(C8.pss_cut (ps_if (pt_cmpR op_eq (pe_ix ix_tup (pv 6) pe_int (fun _ _ => rfl)) pe_str (nomark _))
(pss_one (ps_expr (pe_meth (pv 4) TW.cl MW GW (hr.mono (by decide)) bW .nil pass0 (pa_cons (pe_ix ix_tup (pv 6) pe_int (fun _ _ => rfl)) pa_nil))))
(pss_one (ps_if (pt_cmpR op_eq (pe_ix ix_tup (pv 6) pe_int (fun _ _ => rfl)) pe_str (nomark _))
(pss_one (ps_expr (pe_meth (pv 4) TW.cl MS GS (hr.mono (by decide)) bS .nil pass0 (pa_cons (pe_ix ix_tup (pv 6) pe_int (fun _ _ => rfl)) pa_nil))))
(pss_one (ps_if (pt_cmpR op_eq (pe_ix ix_tup (pv 6) pe_int (fun _ _ => rfl)) pe_str (nomark _))
(pss_one (ps_expr (pe_meth (pv 4) TW.cl MR GR (hr.mono (by decide)) bR .nil pass0 (pa_cons (pe_callTy call_tuple_of (by rfl) (by exact T.tuple) (by decide +kernel) (pa_cons (pe_ix ix_tup (pv 6) pe_int (fun _ _ => rfl)) pa_nil)) pa_nil))))
(pss_one (ps_expr (pe_meth (pv 4) TW.cl MB GB (hr.mono (by decide)) bB .nil pass0 (pa_cons (pe_ix ix_tup (pv 6) pe_int (fun _ _ => rfl)) (pa_cons (pe_ix ix_tup (pv 6) pe_int (fun _ _ => rfl)) pa_nil))))))))))
(pss_cons (ps_set (i := 5) scLaw.nd rfl (Or.inl rfl) (pe_op op_cat (pv 5) (pe_cl C.row hr (by decide) rfl (pa_cons (pv 6) pa_nil))))
(pss_one (ps_if (pt_cmpR (op_neD (hu64 hr)) (pe_meth0 (pv 4) TW.cl MA GA (hr.mono (by decide)) bA .nil pass0) (pe_callTy call_tuple_of (by rfl) (by exact T.tuple) (by decide +kernel) (pa_cons (pv 5) pa_nil)) (nomark _))
(pss_one (ps_ret pe_bl))
pss_nil)))))
(pss_cons (ps_if (pt_not (pt_val (pe_cl C.isRead hr (by decide) rfl (pa_cons (pv 5) (pa_cons (pv 3) pa_nil)))))
(pss_one (ps_ret pe_bl))
pss_nil)
(pss_cons (ps_set (i := 7) scLaw.nd rfl (Or.inl rfl) (pe_cl C.draw hr (by decide) rfl (pa_cons (pv 1) (pa_cons (pe_op op_add (pe_callB call_len_seq (by rfl) (by exact T.len) PySem.boot_len (pa_cons (pv 5) pa_nil)) pe_int) pa_nil))))
(pss_cons (ps_set (i := 8) scLaw.nd rfl (Or.inl rfl) (pe_cl C.draw hr (by decide) rfl (pa_cons (pv 1) (pa_cons pe_int pa_nil))))
(pss_one (ps_for PassesOwn.never rfl (pi_tup (pe_tup (pa_cons (pe_slice sl_list (pv 5) po_none (po_some (pv 7))) (pa_cons (pe_op op_cat (pe_op op_cat (pe_slice sl_list (pv 5) po_none (po_some (pv 7))) (pe_lst (pa_cons (pv 8) pa_nil))) (pe_slice sl_list (pv 5) (po_some (pe_op op_add (pv 7) pe_int)) po_none)) (pa_cons (pe_op op_cat (pe_op op_cat (pe_slice sl_list (pv 5) po_none (po_some (pv 7))) (pe_lst (pa_cons (pv 8) pa_nil))) (pe_slice sl_list (pv 5) (po_some (pv 7)) po_none)) pa_nil))))) (pg_name (i := 9) scLaw.nd rfl (Or.inl rfl))
(pss_one (ps_if (pt_not (pt_val (pe_cl C.isRead hr (by decide) rfl (pa_cons (pv 9) (pa_cons (pv 3) pa_nil)))))
(pss_one (ps_ret pe_bl))
pss_nil))))))))))
(pss_one (ps_ret pe_bl))), ?_⟩
    refine ⟨_, rfl, a, ns, rfl, hS, fun pn c H0 _ _ HP0 => ?_⟩
    refine ⟨3, rfl, by decide, by decide, for_range (n := 3) (fun i σ G => ∃ x2 x3 x4 x5 x6 x7 x8 x9 : Option V, σ = [some (.ref a), some (.ref pn), x2, x3, x4, x5, x6, x7, x8, x9, none] ∧ PenAt G pn c (10000 * i))
      ⟨_, _, _, _, _, _, _, _, rfl, HP0⟩ ?_ ?_⟩
    · rintro i σ G hi ⟨x2, x3, x4, x5, x6, x7, x8, x9, rfl, HP⟩
      refine ⟨fun σ G => ∃ (D pw l pr : Addr) (ws : List V) (G0 : Hp), σ = [some (.ref a), some (.ref pn), some (.int (0 + (i : Int))), some (.ref D), some (.ref pw), some (.ref pr), x6, x7, x8, x9, none] ∧ G0 D = some (.lst ws) ∧ ws.length ≤ 8 ∧ Wrts G0 ws ∧ PenAt G0 pn c (10000 * i + 5000) ∧ G0 l = none ∧
        But pn G0 G ∧ PenAt G pn c (10000 * i + 5000) ∧ WAt CW G pw l [] ∧ G pr = some (.lst []) ∧ pr ≠ l, ?_, ?_⟩
      · refine ⟨_, rfl, pn, c, _, _, rfl, HP, by omega, by decide, by decide, fun v o v0 v1 HP1 => ⟨_, _, rfl, rfl, _, rfl, by omega, by omega, fun D hD => ?_⟩⟩
        generalize upd G pn o = G1 at *
        have npD : pn ≠ D := ne_of_none HP1.dict.choose_spec hD
        have ncD : c ≠ D := ne_of_none HP1.cells.choose_spec hD
        have env : ((1 : Int) + v - 0).toNat ≤ 8 := by omega
        refine lc_range (lo := 0) (fun j G => ∃ ws : List V, G D = some (.lst ws) ∧ ws.length = j ∧ WrtsD D G ws ∧ PenAt G pn c (10000 * i + 1 + 500 * j))
          ⟨[], upd_same, rfl, (fun i v h => by cases h), HP1.put npD ncD⟩ ?_ ?_
        · rintro j G2 hj ⟨ws, hD2, hl, hW, HP2⟩
          have hj : j < 8 := by omega
          refine ⟨rfl, ?_⟩
          refine ⟨_, rfl, pn, c, _, rfl, HP2, by omega, fun t x G3 ht hg hN B3 HP3 => ?_⟩
          obtain ⟨kvs, hk⟩ := HP2.dict
          have hD3 : G3 D = some (.lst ws) := B3 _ _ hD2 npD.symm
          have hw := hN.off hD2
          have hW3 : WrtsD D G3 ws := hW.keep (fun b xs e => B3 _ _ e (ne_of e hk (by intro z; cases z))) (fun b xs _ e => B3 _ _ e (ne_of e hk (by intro z; cases z)))
          refine ⟨ws, hD3, small1000 (by omega), ws ++ [.ref t], upd_same, by rw [List.length_append, hl]; rfl, ?_, (HP3.mono (by omega)).put npD ncD⟩
          exact (hW3.snoc hg hw).keep (fun b xs e => by rw [upd_ne (ne_of e hD3 (by intro z; cases z))]; exact e) (fun b xs n e => by rw [upd_ne n]; exact e)
        · rintro G2 ⟨ws, hD2, hl, hW, HP2⟩
          intro pw dx hpw hdx hne
          have s1 : Same G2 (upd (upd G2 dx (.own pw)) pw (.ins CW dx [])) := Same.put (Same.new hdx) hpw
          refine ⟨pw, dx, rfl, upd_same, fun l G3 hl3 WA keep => ⟨rfl, Nat.zero_le _, fun pr hpr => ⟨_, _, _, rfl, ?_⟩⟩⟩
          have s2 : Same G2 G3 := fun b o e => keep b o (s1 b o e) (ne_of_none e hpw)
          have s3 := s2.trans (Same.new (o := .lst []) hpr)
          have WA2 : WAt CW (upd G3 pr (.lst [])) pw l [] := by
            obtain ⟨dx2, ho⟩ := WA.ob
            exact ⟨⟨dx2, (Same.new hpr) _ _ ho⟩, (Same.new hpr) _ _ WA.ls⟩
          exact ⟨D, pw, l, pr, ws, G2, rfl, hD2, by omega, hW.wrts, HP2.mono (by omega), s1.free hl3, But.same s3, (HP2.mono (by omega)).same s3, WA2, upd_same, (ne_of_none WA.ls hpr).symm⟩
      rintro σ G1 ⟨D, pw, l, pr0, ws, G0, rfl, hD0, hws, hW0, HP0, hl0, B1, HP1, WA1, hpr1, npr1⟩
      obtain ⟨kvs, hk0⟩ := HP0.dict
      obtain ⟨cs, hc0⟩ := HP0.cells
      have npl : pn ≠ l := ne_of_none hk0 hl0
      have ncl : c ≠ l := ne_of_none hc0 hl0
      have hDn : D ≠ pn := ne_of hD0 hk0 (by intro z; cases z)
      have btr : ∀ {G G' : Hp}, But pn G0 G → But l G G' → But pn G0 G' := fun B B' b o e n => B' b o (B b o e n) (ne_of_none e hl0)
      have g0t : ∀ {G : Hp} {b : Addr} {xs : List V}, But pn G0 G → G0 b = some (.tup xs) → G b = some (.tup xs) := fun B e => B _ _ e (ne_of e hk0 (by intro z; cases z))
      have g0l : ∀ {G : Hp} {b : Addr} {xs : List V}, But pn G0 G → G0 b = some (.lst xs) → G b = some (.lst xs) := fun B e => B _ _ e (ne_of e hk0 (by intro z; cases z))
      refine ⟨fun σ G => ∃ (x6 : Option V) (pr : Addr) (r : List Nat), σ = [some (.ref a), some (.ref pn), some (.int (0 + (i : Int))), some (.ref D), some (.ref pw), some (.ref pr), x6, x7, x8, x9, none] ∧
        But pn G0 G ∧ PenAt G pn c (10000 * i + 5000) ∧ G pr = some (.lst (r.map nI)) ∧ (∀ b ∈ r, b < 256) ∧ r.length ≤ 2000, ?_, ?_⟩
      · refine ⟨_, rfl, D, rfl, ⟨_, .inl (.inl (g0l B1 hD0))⟩, for_list (K := K) (a := D) (xs := ws) (fun j σ G => ∃ (x6 : Option V) (pr : Addr) (r : List Nat), σ = [some (.ref a), some (.ref pn), some (.int (0 + (i : Int))), some (.ref D), some (.ref pw), some (.ref pr), x6, x7, x8, x9, none] ∧
            But pn G0 G ∧ PenAt G pn c (10000 * i + 5000) ∧ WAt CW G pw l r ∧ G pr = some (.lst (r.map nI)) ∧ pr ≠ l ∧ (∀ b ∈ r, b < 256) ∧ r.length ≤ 250 * j)
          ⟨x6, pr0, [], rfl, B1, HP1, WA1, hpr1, npr1, (fun b h => nomatch h), Nat.zero_le _⟩ (fun j σ G _ ⟨_, _, _, _, B, _⟩ => .inl (.inl (g0l B hD0))) ?_ ?_⟩
        · rintro j y σ G hj ⟨x6, pr, r, rfl, B, HPj, WA, hpr, npr, hr8, hrl⟩
          have hj8 : j < 8 := by
            have := (List.getElem?_eq_some_iff.mp hj).1
            omega
          obtain ⟨t, x, rfl, hg, hw0⟩ := hW0 j y hj
          obtain ⟨hro, hrol⟩ := row_ok hg
          have hw := hw0.but B hk0
          obtain ⟨dxw, hpw⟩ := WA.ob
          refine ⟨fun σ G' => σ = [some (.ref a), some (.ref pn), some (.int (0 + (i : Int))), some (.ref D), some (.ref pw), some (.ref pr), some (.ref t), x7, x8, x9, none] ∧ But pn G0 G' ∧ PenAt G' pn c (10000 * i + 5000) ∧ WAt CW G' pw l (r ++ Rb.row x) ∧ G' pr = some (.lst (r.map nI)), ?_, ?_⟩
          · have post : ∀ G', But l G G' → WAt CW G' pw l (r ++ Rb.row x) → But pn G0 G' ∧ PenAt G' pn c (10000 * i + 5000) ∧ WAt CW G' pw l (r ++ Rb.row x) ∧ G' pr = some (.lst (r.map nI)) := fun G' B' W' => ⟨btr B B', HPj.keep B' npl ncl, W', B' _ _ hpr npr⟩
            cases x with
            | whole n =>
              have h0 : G t = some (.tup [.str "whole", nI n]) := hw
              have h1 : SqT K G t [.str "whole", nI n] := .inl (.inl h0)
              refine ⟨_, rfl, t, _, _, _, rfl, rfl, h1, (by rfl), rfl, _, rfl, ?_⟩
              refine (if_pos (by decide +kernel)).mpr ?_
              refine ⟨_, rfl, pw, dxw, _, rfl, hpw, wf_no l (by decide +kernel), _, rfl, t, _, _, _, rfl, rfl, h1, (by rfl), pw, l, r, n, rfl, WA, ?_, by omega, fun G' B' W' => ⟨rfl, post G' B' W'⟩⟩
              exact Nat.lt_of_lt_of_le (show n < 2 ^ 200 from hg) (Nat.pow_le_pow_right (by decide) (by decide))
            | signs z =>
              have h0 : G t = some (.tup [.str "signs", .str (txt z)]) := hw
              have h1 : SqT K G t [.str "signs", .str (txt z)] := .inl (.inl h0)
              refine ⟨_, rfl, t, _, _, _, rfl, rfl, h1, (by rfl), rfl, _, rfl, ?_⟩
              refine (if_neg (by decide +kernel)).mpr ?_
              refine ⟨_, rfl, t, _, _, _, rfl, rfl, h1, (by rfl), rfl, _, rfl, ?_⟩
              refine (if_pos (by decide +kernel)).mpr ?_
              exact ⟨_, rfl, pw, dxw, _, rfl, hpw, wf_no l (by decide +kernel), _, rfl, t, _, _, _, rfl, rfl, h1, (by rfl), pw, l, r, z, rfl, WA, hg.1, by have := hg.2; omega, by omega, fun G' B' W' => ⟨rfl, post G' B' W'⟩⟩
            | bits ns w' =>
              obtain ⟨a0, h00, ha0⟩ := hw0
              have h1 : SqT K G t [.str "bits", .ref a0, nI w'] := .inl (.inl (g0t B h00))
              refine ⟨_, rfl, t, _, _, _, rfl, rfl, h1, (by rfl), rfl, _, rfl, ?_⟩
              refine (if_neg (by decide +kernel)).mpr ?_
              refine ⟨_, rfl, t, _, _, _, rfl, rfl, h1, (by rfl), rfl, _, rfl, ?_⟩
              refine (if_neg (by decide +kernel)).mpr ?_
              refine ⟨_, rfl, t, _, _, _, rfl, rfl, h1, (by rfl), rfl, _, rfl, ?_⟩
              refine (if_neg (by decide +kernel)).mpr ?_
              exact ⟨_, rfl, pw, dxw, _, rfl, hpw, wf_no l (by decide +kernel), _, rfl, t, _, _, _, rfl, rfl, h1, (by rfl), _, rfl, t, _, _, _, rfl, rfl, h1, (by rfl), pw, l, a0, r, ns, w', rfl, WA, .inl (.inl (g0l B ha0)), (fun G' B' => .inl (.inl (B' _ _ (g0l B ha0) (ne_of_none ha0 hl0)))), hg.1, hg.2.1, by have := hg.2.2; omega, by omega, fun G' B' W' => ⟨rfl, post G' B' W'⟩⟩
            | raw bs =>
              obtain ⟨a0, h00, ha0⟩ := hw0
              have h1 : SqT K G t [.str "raw", .ref a0] := .inl (.inl (g0t B h00))
              refine ⟨_, rfl, t, _, _, _, rfl, rfl, h1, (by rfl), rfl, _, rfl, ?_⟩
              refine (if_neg (by decide +kernel)).mpr ?_
              refine ⟨_, rfl, t, _, _, _, rfl, rfl, h1, (by rfl), rfl, _, rfl, ?_⟩
              refine (if_neg (by decide +kernel)).mpr ?_
              refine ⟨_, rfl, t, _, _, _, rfl, rfl, h1, (by rfl), rfl, _, rfl, ?_⟩
              refine (if_pos (by decide +kernel)).mpr ?_
              refine ⟨_, rfl, pw, dxw, _, rfl, hpw, wf_no l (by decide +kernel), _, rfl, t, _, _, _, rfl, rfl, h1, (by rfl), a0, _, rfl, .inl ⟨.inl (.inl (g0l B ha0)), fun u hu => ?_⟩⟩
              have s1 := Same.new (o := .tup (bs.map nI)) hu
              refine ⟨pw, l, u, r, bs, rfl, ⟨⟨dxw, s1 _ _ hpw⟩, s1 _ _ WA.ls⟩, .inl (.inl upd_same), by have := hg.2; omega, fun G' B' W' => ⟨rfl, post G' ((But.same s1).trans B') W'⟩⟩
          rintro σ G2 ⟨rfl, B2, HP2, WA2, hpr2⟩
          have hw2 := hw0.but B2 hk0
          refine ⟨_, rfl, _, rfl, t, x, rfl, hg, hw2, fun q G3 hq s3 hq3 => ?_⟩
          refine ⟨pr, q, _, _, rfl, rfl, s3 _ _ hpr2, hq3, by rw [List.length_map, List.length_map, sizeLine_eq]; omega, fun pr3 hpr3 => ?_⟩
          have s4 := s3.trans (Same.new (o := .lst (r.map nI ++ (Rb.row x).map nI)) hpr3)
          have hp4 : (upd G3 pr3 (.lst (r.map nI ++ (Rb.row x).map nI))) pr3 = some (.lst ((r ++ Rb.row x).map nI)) := by rw [upd_same, List.map_append]
          generalize upd G3 pr3 (.lst (r.map nI ++ (Rb.row x).map nI)) = G4 at *
          obtain ⟨dx2, hpw2⟩ := WA2.ob
          have WA4 : WAt CW G4 pw l (r ++ Rb.row x) := ⟨⟨dx2, s4 _ _ hpw2⟩, s4 _ _ WA2.ls⟩
          have n3l : pr3 ≠ l := (ne_of_none (s3 _ _ WA2.ls) hpr3).symm
          refine ⟨_, rfl, pw, dx2, _, rfl, s4 _ _ hpw2, wf_no l (by decide +kernel), pw, l, _, rfl, WA4, fun u hu => ?_⟩
          have s5 := Same.new (o := .tup ((r ++ Rb.row x).map nI)) hu
          refine ⟨_, rfl, pr3, _, rfl, .inl ⟨.inl (.inl (s5 _ _ hp4)), fun u2 hu2 => ?_⟩⟩
          have s6 := Same.new (o := .tup ((r ++ Rb.row x).map nI)) hu2
          have hsh : SeqAt.shaped (.tuple ((r ++ Rb.row x).map iD)) = true := by
            obtain ⟨e1, e2⟩ := lay_ints (r ++ Rb.row x)
            generalize (r ++ Rb.row x).map iD = ds at *
            simp [SeqAt.shaped, PyData.canLay0, PyData.depth, e1, e2]
          refine ⟨.tuple ((r ++ Rb.row x).map iD), .tuple ((r ++ Rb.row x).map iD), .tup (.inl (.inl (s6 _ _ upd_same))) (Dp_ints _), .tup (.inl (.inl upd_same)) (Dp_ints _), hsh, hsh, _, rfl, ?_⟩
          refine (if_neg (by rw [SeqAt.eqv_refl _ (SeqAt.canLay_of_shaped hsh)]; decide)).mpr ?_
          have s7 := (s4.trans s5).trans s6
          have WA7 : WAt CW (upd (upd G4 u (.tup ((r ++ Rb.row x).map nI))) u2 (.tup ((r ++ Rb.row x).map nI))) pw l (r ++ Rb.row x) := ⟨⟨dx2, s7 _ _ hpw2⟩, s7 _ _ WA2.ls⟩
          refine ⟨_, pr3, r ++ Rb.row x, rfl, B2.trans (But.same s7), HP2.same s7, WA7, s6 _ _ (s5 _ _ hp4), n3l, fun b hb => ?_, ?_⟩
          · rcases List.mem_append.mp hb with hb | hb
            · exact hr8 b hb
            · exact hro b hb
          · rw [List.length_append]
            omega
        · rintro σ G2 ⟨x6, pr, r, rfl, B2, HP2, WA2, hpr2, npr2, hr8, hrl⟩
          exact ⟨_, pr, r, rfl, B2, HP2, hpr2, hr8, by omega⟩
      rintro σ G2 ⟨x6, pr, r, rfl, B2, HP2, hpr2, hr8, hrl⟩
      have hWr : ∀ {G}, But pn G0 G → Wrts G ws := fun B => hW0.but B hk0
      refine ⟨_, rfl, _, rfl, pr, D, r, ws, rfl, hpr2, g0l B2 hD0, hr8, by omega, hWr B2, fun G3 s3 => ⟨_, rfl, ?_⟩⟩
      refine (if_neg (by decide)).mpr ?_
      have B3 := B2.trans (But.same s3)
      have HP3 := HP2.same s3
      have hpr3 := s3 _ _ hpr2
      have hlg : ((((r.map nI).length : Nat) : Int) + 1).natAbs.log2 < 9000 := by
        have h1 : ((((r.map nI).length : Nat) : Int) + 1).natAbs.log2 < 12 := PySem.Flt.log2_lt_of (by decide) (by rw [List.length_map]; omega)
        omega
      refine ⟨_, rfl, _, rfl, pr, _, rfl, .inl (.inl (.inl hpr3)), _, _, rfl, rfl, pn, c, _, _, rfl, HP3, by omega, by omega, hlg, fun v7 o7 a7 b7 HP4 => ?_⟩
      have hpr4 := HP3.lst (o := o7) hpr3
      have B4 := B3.trans (But.up pn G3 o7)
      generalize upd G3 pn o7 = G4 at *
      refine ⟨_, rfl, pn, c, _, _, rfl, HP4, by omega, by decide, by decide, fun v8 o8 a8 b8 HP5 => ?_⟩
      have hpr5 := HP4.lst (o := o8) hpr4
      have B5 := B4.trans (But.up pn G4 o8)
      generalize upd G4 pn o8 = G5 at *
      obtain ⟨n8, rfl⟩ : ∃ n8 : Nat, v8 = (n8 : Int) := ⟨v8.toNat, by omega⟩
      have h256 : n8 < 256 := by omega
      refine read_cut rfl hpr5 (fun Q q => q none) (fun Q q => ⟨_, rfl, _, rfl, q _⟩) fun q1 r1 H1 s1 e1 m1 l1 => ?_
      refine read_bent (b := n8) rfl rfl rfl h256 (s1 _ _ hpr5) hr8 (by omega) (fun H Q q => ⟨_, rfl, _, _, rfl, rfl, _, rfl, q _⟩) fun q2 r2 H2 s2 e2 m2 l2 => ?_
      refine read_bent (b := n8) rfl rfl rfl h256 (s2 _ _ (s1 _ _ hpr5)) hr8 (by omega) (fun H Q q => ⟨_, rfl, _, rfl, q _⟩) fun q3 r3 H3 s3 e3 m3 l3 => ?_
      refine ⟨by show 3 ≤ sizeLine; decide, fun tt htt => ?_⟩
      have s4 := Same.new (o := .tup [V.ref q1, V.ref q2, V.ref q3]) htt
      have s14 := ((s1.trans s2).trans s3).trans s4
      have B6 := B5.trans (But.same s14)
      have HP6 := HP5.same s14
      have f1 : (upd H3 tt (.tup [V.ref q1, V.ref q2, V.ref q3])) q1 = some (.lst (r1.map nI)) := s4 _ _ (s3 _ _ (s2 _ _ e1))
      have f2 : (upd H3 tt (.tup [V.ref q1, V.ref q2, V.ref q3])) q2 = some (.lst (r2.map nI)) := s4 _ _ (s3 _ _ e2)
      have f3 : (upd H3 tt (.tup [V.ref q1, V.ref q2, V.ref q3])) q3 = some (.lst (r3.map nI)) := s4 _ _ e3
      have ftt : (upd H3 tt (.tup [V.ref q1, V.ref q2, V.ref q3])) tt = some (.tup [V.ref q1, V.ref q2, V.ref q3]) := upd_same
      generalize upd H3 tt (.tup [V.ref q1, V.ref q2, V.ref q3]) = G6 at *
      have items : ∀ (j : Nat) (v : V), ([V.ref q1, V.ref q2, V.ref q3] : List V)[j]? = some v → ∃ (q : Addr) (r' : List Nat), v = .ref q ∧ G6 q = some (.lst (r'.map nI)) ∧ (∀ b ∈ r', b < 256) ∧ r'.length ≤ 100000 := by
        intro j v hv
        match j, hv with
        | 0, hv => exact ⟨q1, r1, (Option.some.inj hv).symm, f1, fun b hb => hr8 b (m1 b hb), by omega⟩
        | 1, hv => exact ⟨q2, r2, (Option.some.inj hv).symm, f2, m2, l2⟩
        | 2, hv => exact ⟨q3, r3, (Option.some.inj hv).symm, f3, m3, l3⟩
        | n + 3, hv => cases hv
      refine ⟨tt, rfl, ⟨_, .inl (.inl ftt)⟩, for_tup (K := K) (a := tt) (xs := [V.ref q1, V.ref q2, V.ref q3]) (fun j σ G => ∃ x9 : Option V, σ = [some (.ref a), some (.ref pn), some (.int (0 + (i : Int))), some (.ref D), some (.ref pw), some (.ref pr), x6, some (.int v7), some (nI n8), x9, none] ∧ Same G6 G)
        ⟨x9, rfl, Same.refl _⟩ (fun j σ G _ ⟨_, _, s⟩ => .inl (.inl (s _ _ ftt))) ?_ ?_⟩
      · rintro j y σ G hj ⟨x9, rfl, sG⟩
        obtain ⟨q, r', rfl, hq, hb', hl'⟩ := items j y hj
        refine ⟨_, rfl, _, rfl, q, D, r', ws, rfl, sG _ _ hq, sG _ _ (g0l B6 hD0), hb', hl', (hWr (B6.trans (But.same sG))), fun G' s' => ⟨_, rfl, ?_⟩⟩
        refine (if_neg (by decide)).mpr ?_
        exact ⟨_, rfl, sG.trans s'⟩
      · rintro σ G ⟨x9, rfl, sG⟩
        exact ⟨_, _, _, _, _, _, _, _, rfl, (HP6.same sG).mono (by omega)⟩
    · rintro σ G ⟨x2, x3, x4, x5, x6, x7, x8, x9, rfl, HP⟩
      exact k G
end
end Wq

set_option Elab.async false
set_option linter.all false
set_option maxRecDepth 100000
set_option maxHeartbeats 2000000
namespace Wq
open PySem PySem.Spec PyProof.Rows L2
open Rb (wh le un val Bp Wr)
theorem bnd1 {K : PySem.W.Frag} {m q : Str} {st : Stmt} {f : Addr} {fd : FuncData} {a : Str} (F : Fun K m q st f fd)
    (h : ∀ (kV doc pm : Value) (an : Option Addr) (cdv ct : Value) (us : List Value), us.length = 1 → bindArgs (PySem.W.fnOf m q (defArgs st) (defBody st) (defScope st) .none kV doc pm an cdv ct) ⟨us, []⟩ = pure (([a] : List Str).zip us)) : Binds K fd [a] [] := F.binds h
/-- what the written part says of the classes and of the names -/
structure World3 (K : PySem.W.Frag) (mg : Str → Option Value) (CW CR CE CS : Addr) : Prop where
  gW : mg "Writer" = some (.ref CW)
  gR : mg "RowReader" = some (.ref CR)
  clW : Cls K CW
  clR : Cls K CR
  mW : PySem.W.makesIn K CW = true
  mR : PySem.W.makesIn K CR = true
  kW : PySem.W.keepIn K (.ref CW) = true
  kR : PySem.W.keepIn K (.ref CR) = true
  wR : NoAttr K CW "_row"
  rR : NoAttr K CR "_row"
  rA : NoAttr K CR "at"
  rD : NoAttr K CR "is_done"
  sg : ∃ t, mg "SIGNS" = some (.str SG t)
theorem all_mk {l : PySem.W.OpenLaw} {w : World} {K : PySem.W.Frag} {h : Heap} {mg : Str → Option Value} {fa CW CR CE CS : Addr} (X : K.In h) (G : h.Ns mainGlobals mg) (hfa : mg "law" = some (.ref fa))
    (W3 : World3 K mg CW CR CE CS) (T : Txt K mg) (isi : mg "isinstance" = none)
    (gE : mg "BadBytes" = some (.ref CE)) (gS : mg "SearchError" = some (.ref CS)) (oxE : OexC K CE) (nP : PySem.W.findIn K (.ref CE) "place" = some none) (xfE : XfC K CE) (teE : PySem.W.exmOne K (.ref CE) (.ref CE) = some true) (exE : ExcC K CE) (ktE : PySem.W.kitOne K (.ref CE) (.ref CS) = some true)
    (d5 : DefAt K mg "all_signs" sSigns) (d10 : DefAt K mg "_law_pen" sPen) (d11 : DefAt K mg "_law_draw" sDraw) (d12 : DefAt K mg "_law_pick" sPick) (d13 : DefAt K mg "_law_writing" sWriting) (d14 : DefAt K mg "_law_whole_row" sWholeRow) (d15 : DefAt K mg "_law_row" sRow)
    (d16 : DefAt K mg "_law_whole_read" sLW) (d17 : DefAt K mg "_law_read" sLR) (d18 : DefAt K mg "_law_told" sLT) (d19 : DefAt K mg "_law_is_read" sLI) (d20 : DefAt K mg "law" sLaw)
    (e0 : MAt K CE "__init__" "BadBytes.__init__" sBI)
    (w0 : MAt K CW "__init__" "Writer.__init__" sWI) (w1 : MAt K CW "all_bytes" "Writer.all_bytes" sWA) (w2 : MAt K CW "whole" "Writer.whole" sWW) (w3 : MAt K CW "signs" "Writer.signs" sWS) (w4 : MAt K CW "bits" "Writer.bits" sWB) (w5 : MAt K CW "raw" "Writer.raw" sWR)
    (r0 : MAt K CR "__init__" "RowReader.__init__" sRI) (r1 : MAt K CR "_go_to" "RowReader._go_to" sRG) (r2 : MAt K CR "_byte_at" "RowReader._byte_at" sRB) (r3 : MAt K CR "byte" "RowReader.byte" sRY) (r4 : MAt K CR "_whole_from" "RowReader._whole_from" sRF) (r5 : MAt K CR "whole" "RowReader.whole" sRW)
    (r6 : MAt K CR "signs" "RowReader.signs" sRS) (r7 : MAt K CR "bits" "RowReader.bits" sRT) (r8 : MAt K CR "_numbers" "RowReader._numbers" sRN) (r9 : MAt K CR "raw" "RowReader.raw" sRR) :
    ∃ fd : FuncData, (∀ (s : Shared) (v : Value), BindsTo s fd ⟨[v], []⟩ [("_law_script", v)]) ∧ ∀ base : Heap, K.In base → base.Ns mainGlobals mg → FnOk l.prog w K mg base CX0 8 fa fd ["_law_script"] (spLaw K) := by
  obtain ⟨f, fd, F, hm⟩ := d20.ex
  have e := hfa.symm.trans hm
  cases e
  obtain ⟨oc, od, kV, doc, pm, an, cdv, ct, osl, rfl, lk, hcd⟩ := F.ex
  refine ⟨PySem.W.fnOf "law" "law" (defArgs sLaw) (defBody sLaw) (defScope sLaw) .none kV doc pm an cdv ct, fun s v => .of_eq rfl, fun base _ _ => ?_⟩
  have TW : TxtW K mg CW := ⟨W3.clW, W3.wR, W3.sg⟩
  have TR : TxtR K mg CR := ⟨W3.clR, W3.rR, W3.rA, W3.rD, W3.sg⟩
  have TL : TxtL K mg CE CS := ⟨isi, gS, exE, ktE⟩
  have CD := ok_draw (P := l.prog) (w := w) (base := base) d11 T
  have CP := ok_pick (P := l.prog) (w := w) (base := base) d12 T CD
  have CG := ok_signs (P := l.prog) (w := w) (base := base) d5 W3.sg
  have CWr := ok_writing d13 T CD CP CG
  have CRow := ok_row d15 T (ok_wholeRow d14 T) CG
  have CLR := ok_LR d17 T (ok_LW d16 T) CG
  -- BadBytes
  obtain ⟨fE, fdE, FE, ME⟩ := e0.ex
  have TE : TxtE K mg CE fE := ⟨oxE, nP, ME.at_, beq_iff_eq.mp ME.fn, gE, xfE, teE⟩
  have GE := ok_BI (P := l.prog) (w := w) (base := base) (mg := mg) FE TE
  have bE := FE.binds (ps := ["self", "place"]) fun _ _ _ _ _ _ us hl => match us, hl with | [_, _], _ => rfl
  -- Writer
  obtain ⟨fw0, fdw0, Fw0, Mw0⟩ := w0.ex
  obtain ⟨fw1, fdw1, Fw1, Mw1⟩ := w1.ex
  obtain ⟨fw2, fdw2, Fw2, Mw2⟩ := w2.ex
  obtain ⟨fw3, fdw3, Fw3, Mw3⟩ := w3.ex
  obtain ⟨fw4, fdw4, Fw4, Mw4⟩ := w4.ex
  obtain ⟨fw5, fdw5, Fw5, Mw5⟩ := w5.ex
  have bw0 := Fw0.binds (ps := ["self"]) fun _ _ _ _ _ _ us hl => match us, hl with | [_], _ => rfl
  have bw1 := Fw1.binds (ps := ["self"]) fun _ _ _ _ _ _ us hl => match us, hl with | [_], _ => rfl
  have bw2 := Fw2.binds (ps := ["self", "number"]) fun _ _ _ _ _ _ us hl => match us, hl with | [_, _], _ => rfl
  have bw3 := Fw3.binds (ps := ["self", "text"]) fun _ _ _ _ _ _ us hl => match us, hl with | [_, _], _ => rfl
  have bw4 := Fw4.binds (ps := ["self", "numbers", "width"]) fun _ _ _ _ _ _ us hl => match us, hl with | [_, _, _], _ => rfl
  have bw5 := Fw5.binds (ps := ["self", "row"]) fun _ _ _ _ _ _ us hl => match us, hl with | [_, _], _ => rfl
  have Gw2 := ok_WW (P := l.prog) (w := w) (base := base) Fw2 TW
  -- RowReader
  obtain ⟨fr0, fdr0, Fr0, Mr0⟩ := r0.ex
  obtain ⟨fr1, fdr1, Fr1, Mr1⟩ := r1.ex
  obtain ⟨fr2, fdr2, Fr2, Mr2⟩ := r2.ex
  obtain ⟨fr3, fdr3, Fr3, Mr3⟩ := r3.ex
  obtain ⟨fr4, fdr4, Fr4, Mr4⟩ := r4.ex
  obtain ⟨fr5, fdr5, Fr5, Mr5⟩ := r5.ex
  obtain ⟨fr6, fdr6, Fr6, Mr6⟩ := r6.ex
  obtain ⟨fr7, fdr7, Fr7, Mr7⟩ := r7.ex
  obtain ⟨fr8, fdr8, Fr8, Mr8⟩ := r8.ex
  obtain ⟨fr9, fdr9, Fr9, Mr9⟩ := r9.ex
  have br0 := Fr0.binds (ps := ["self", "row"]) fun _ _ _ _ _ _ us hl => match us, hl with | [_, _], _ => rfl
  have br1 := Fr1.binds (ps := ["self", "place"]) fun _ _ _ _ _ _ us hl => match us, hl with | [_, _], _ => rfl
  have br2 := Fr2.binds (ps := ["self", "place"]) fun _ _ _ _ _ _ us hl => match us, hl with | [_, _], _ => rfl
  have br3 := Fr3.binds (ps := ["self"]) fun _ _ _ _ _ _ us hl => match us, hl with | [_], _ => rfl
  have br4 := Fr4.binds (ps := ["self", "place"]) fun _ _ _ _ _ _ us hl => match us, hl with | [_, _], _ => rfl
  have br5 := Fr5.binds (ps := ["self"]) fun _ _ _ _ _ _ us hl => match us, hl with | [_], _ => rfl
  have br6 := Fr6.binds (ps := ["self"]) fun _ _ _ _ _ _ us hl => match us, hl with | [_], _ => rfl
  have br7 := Fr7.binds (ps := ["self", "many", "width"]) fun _ _ _ _ _ _ us hl => match us, hl with | [_, _, _], _ => rfl
  have br8 := Fr8.binds (ps := ["self", "many", "width", "end"]) fun _ _ _ _ _ _ us hl => match us, hl with | [_, _, _, _], _ => rfl
  have br9 := Fr9.binds (ps := ["self", "many"]) fun _ _ _ _ _ _ us hl => match us, hl with | [_, _], _ => rfl
  have Gr1 := ok_RG (P := l.prog) (w := w) (base := base) Fr1 TR T
  have Gr2 := ok_RB Fr2 TR T TE GE bE
  have Gr3 := ok_RY Fr3 TR Mr2 Gr2 br2 Mr1 Gr1 br1
  have Gr4 := ok_RF Fr4 TR TE GE bE Mr2 Gr2 br2
  have Gr5 := ok_RW Fr5 TR Mr4 Gr4 br4 Mr1 Gr1 br1
  have Gr6 := ok_RS Fr6 TR T TE GE bE Mr4 Gr4 br4 Mr1 Gr1 br1
  have Gr8 := ok_RN Fr8 TR T TE GE bE
  have Gr7 := ok_RT Fr7 TR T TE GE bE Mr8 Gr8 br8 Mr1 Gr1 br1
  have Gr9 := ok_RR Fr9 TR T TE GE bE Mr1 Gr1 br1
  have CLT := ok_LT d18 T TL TE TR ⟨_, _, Mr7, Gr7, br7⟩ ⟨_, _, Mr3, Gr3, br3⟩ ⟨_, _, Mr9, Gr9, br9⟩ ⟨_, _, Mr5, Gr5, br5⟩ ⟨_, _, Mr6, Gr6, br6⟩
  have CLI := ok_LI d19 T TR ⟨_, _, ⟨W3.mR, Mr0.at_, Mr0.fn, W3.kR⟩, ok_RI Fr0 TR T, W3.gR, br0⟩ CLR CLT
  exact ok_law F T TW ⟨ok_pen d10 T, CD, CWr, CRow, CLI⟩ ⟨_, _, ⟨W3.mW, Mw0.at_, Mw0.fn, W3.kW⟩, ok_WI Fw0 TW, W3.gW, bw0⟩ ⟨_, _, Mw1, ok_WA Fw1 TW T, bw1⟩ ⟨_, _, Mw2, Gw2, bw2⟩ ⟨_, _, Mw3, ok_WS Fw3 TW T Mw2 Gw2 bw2, bw3⟩ ⟨_, _, Mw4, ok_WB Fw4 TW, bw4⟩ ⟨_, _, Mw5, ok_WR Fw5 TW T, bw5⟩
theorem walk {l : PySem.W.OpenLaw} {q : Program} {loose : List Str} {XP : (Str → Option Value) → Heap → Prop} {YP : World → Heap → Prop} {d : DefRec} {K : Params → PySem.W.Frag} (hn : l.most = some 63) (hdf : d.params.defaults = [])
    (hY : ∀ (w : World) (h : Heap), YP w h → (K w.params).In h)
    (F : ∀ (w : World) (mg : Str → Option Value) (fa : Addr) (h : Heap), (K w.params).In h → h.Ns mainGlobals mg → mg d.name = some (.ref fa) →
      ∃ fd : FuncData, (∀ (s : Shared) (u : Value), BindsTo s fd ⟨[u], []⟩ [("_law_script", u)]) ∧ ∀ base : Heap, (K w.params).In base → base.Ns mainGlobals mg → FnOk l.prog w (K w.params) mg base CX0 8 fa fd ["_law_script"] (spLaw (K w.params))) :
    PySem.W.WalkO q loose XP YP l.row.toRowW d [] (fun f vs => PySem.call f vs) :=
  L2.walk_of (n := 63) (k := 8) (x := "_law_script") (CX := fun _ => CX0) (sp := fun w => spLaw (K w.params)) hn (by decide) hdf ⟨rfl, by decide, by decide⟩ hY F (fun _ _ a ns hl _ hS => ⟨a, ns, rfl, hS, fun _ => rfl⟩) fun _ _ _ _ _ z => z
end Wq

set_option Elab.async false
set_option linter.all false
set_option maxRecDepth 100000
set_option maxHeartbeats 2000000
namespace Wq
open PySem PySem.Spec PyProof.Rows L2
theorem oex_mk {K : PySem.W.Frag} {C : Addr} {nm q : Str} {N : Addr} {bs bm : List Value} {sn : List Str} {sub : List Value} {ab : Bool} {col : Option Bool} {dd : Option Addr} {k0 k1 k2 k3 k5 : Option Value}
    (xL : K.lookup C = some (excClassObj nm q C N bs bm true sn sub ab col dd k0 k1 k2 k3 k5 "ValueError.__new__")) (rv : PySem.HandSPX.refsVE bm = true) (sa : PySem.W.findIn K (.ref C) "__setattr__" = some (some (.builtin "object.__setattr__")))
    (eC : PySem.W.subIn K (.ref C) (.type "BaseException") = some true) (tC : PySem.W.typeIn K (.ref C) = some (.type "type")) (kC : PySem.W.keepIn K (.ref C) = true) : OexC K C := ⟨⟨nm, q, N, bs, bm, sn, sub, ab, col, dd, k0, k1, k2, k3, k5, xL, rv⟩, sa, eC, tC, kC⟩
theorem kit_mk {K : PySem.W.Frag} {C D : Addr} (h : PySem.W.kitCls K (.ref C) (.ref D) = some true) : PySem.W.kitOne K (.ref C) (.ref D) = some true := by
  unfold PySem.W.kitOne
  rw [h]
  split <;> rfl
end Wq
open PySem PySem.W PyProof.Rows
set_option maxRecDepth 100000 in
set_option maxHeartbeats 0 in
theorem PySem.Challenge.cw_wordquarry_k02_rows_of_bytes_holds : PySem.Challenge.rw_wordquarry_k02_rows_of_bytes.Holds := by
  w_on; o_law; k_head; (case hw => w_witness2)
  k_fill
  refine Wq.walk (l := PySem.Challenge.rw_wordquarry_k02_rows_of_bytes) rfl rfl (fun w h Y => PySem.W.kIn_of Y) ?F
  case F =>
    intro w mg fa h KX G hmg
    refine' Wq.all_mk KX G hmg ⟨PySem.W.mg_of KX G ?gW, PySem.W.mg_of KX G ?gR, ⟨?w_pg, ?w_hd, ?w_po, ?w_sa⟩, ⟨?r_pg, ?r_hd, ?r_po, ?r_sa⟩, ?w_mk, ?r_mk, ?w_kp, ?r_kp, ?w_n1, ?r_n1, ?r_n2, ?r_n3, ⟨_, PySem.W.mg_of KX G ?sg⟩⟩
      ⟨PySem.W.mg_none_of KX G ?z1, PySem.W.mg_none_of KX G ?z2, PySem.W.mg_none_of KX G ?z3, PySem.W.mg_none_of KX G ?z4, PySem.W.mg_none_of KX G ?z5, PySem.W.mg_none_of KX G ?z6⟩ (PySem.W.mg_none_of KX G ?z7)
      (PySem.W.mg_of KX G ?gE) (PySem.W.mg_of KX G ?gS) (Wq.oex_mk ?xL ?rv ?e_sa ?e_ex ?e_ty ?e_kp) ?e_np ⟨?x_ga, ?x_gg, ?x_ex, ?x_hd⟩ (PySem.W.exm_ref ?m_ex ?m_hd ?m_ty ?m_su) ⟨?c_hg, ?c_hk, ?c_hs, ?c_hd, ?c_ha, ?c_hn, ?c_ht, ?c_hm⟩ (Wq.kit_mk ?kt)
      ?d5 ?d10 ?d11 ?d12 ?d13 ?d14 ?d15 ?d16 ?d17 ?d18 ?d19 ?d20 ?e0 ?w0 ?w1 ?w2 ?w3 ?w4 ?w5 ?r0 ?r1 ?r2 ?r3 ?r4 ?r5 ?r6 ?r7 ?r8 ?r9
    (case gW => k_is)
    (case gR => k_is)
    (case gE => k_is)
    (case gS => k_is)
    (case d5 => (refine' Wq.def_mk KX G ?a ?l ?c ?k; (case a => k_is); (case l => k_is); (case c => k_is); (case k => k_is)))
    (case d10 => (refine' Wq.def_mk KX G ?a ?l ?c ?k; (case a => k_is); (case l => k_is); (case c => k_is); (case k => k_is)))
    (case d11 => (refine' Wq.def_mk KX G ?a ?l ?c ?k; (case a => k_is); (case l => k_is); (case c => k_is); (case k => k_is)))
    (case d12 => (refine' Wq.def_mk KX G ?a ?l ?c ?k; (case a => k_is); (case l => k_is); (case c => k_is); (case k => k_is)))
    (case d13 => (refine' Wq.def_mk KX G ?a ?l ?c ?k; (case a => k_is); (case l => k_is); (case c => k_is); (case k => k_is)))
    (case d14 => (refine' Wq.def_mk KX G ?a ?l ?c ?k; (case a => k_is); (case l => k_is); (case c => k_is); (case k => k_is)))
    (case d15 => (refine' Wq.def_mk KX G ?a ?l ?c ?k; (case a => k_is); (case l => k_is); (case c => k_is); (case k => k_is)))
    (case d16 => (refine' Wq.def_mk KX G ?a ?l ?c ?k; (case a => k_is); (case l => k_is); (case c => k_is); (case k => k_is)))
    (case d17 => (refine' Wq.def_mk KX G ?a ?l ?c ?k; (case a => k_is); (case l => k_is); (case c => k_is); (case k => k_is)))
    (case d18 => (refine' Wq.def_mk KX G ?a ?l ?c ?k; (case a => k_is); (case l => k_is); (case c => k_is); (case k => k_is)))
    (case d19 => (refine' Wq.def_mk KX G ?a ?l ?c ?k; (case a => k_is); (case l => k_is); (case c => k_is); (case k => k_is)))
    (case d20 => (refine' Wq.def_mk KX G ?a ?l ?c ?k; (case a => k_is); (case l => k_is); (case c => k_is); (case k => k_is)))
    (case e0 => (refine' Wq.m_mk ?a ?i ?l ?c ?k; (case a => k_is); (case i => k_is); (case l => k_is); (case c => k_is); (case k => k_is)))
    (case w0 => (refine' Wq.m_mk ?a ?i ?l ?c ?k; (case a => k_is); (case i => k_is); (case l => k_is); (case c => k_is); (case k => k_is)))
    (case w1 => (refine' Wq.m_mk ?a ?i ?l ?c ?k; (case a => k_is); (case i => k_is); (case l => k_is); (case c => k_is); (case k => k_is)))
    (case w2 => (refine' Wq.m_mk ?a ?i ?l ?c ?k; (case a => k_is); (case i => k_is); (case l => k_is); (case c => k_is); (case k => k_is)))
    (case w3 => (refine' Wq.m_mk ?a ?i ?l ?c ?k; (case a => k_is); (case i => k_is); (case l => k_is); (case c => k_is); (case k => k_is)))
    (case w4 => (refine' Wq.m_mk ?a ?i ?l ?c ?k; (case a => k_is); (case i => k_is); (case l => k_is); (case c => k_is); (case k => k_is)))
    (case w5 => (refine' Wq.m_mk ?a ?i ?l ?c ?k; (case a => k_is); (case i => k_is); (case l => k_is); (case c => k_is); (case k => k_is)))
    (case r0 => (refine' Wq.m_mk ?a ?i ?l ?c ?k; (case a => k_is); (case i => k_is); (case l => k_is); (case c => k_is); (case k => k_is)))
    (case r1 => (refine' Wq.m_mk ?a ?i ?l ?c ?k; (case a => k_is); (case i => k_is); (case l => k_is); (case c => k_is); (case k => k_is)))
    (case r2 => (refine' Wq.m_mk ?a ?i ?l ?c ?k; (case a => k_is); (case i => k_is); (case l => k_is); (case c => k_is); (case k => k_is)))
    (case r3 => (refine' Wq.m_mk ?a ?i ?l ?c ?k; (case a => k_is); (case i => k_is); (case l => k_is); (case c => k_is); (case k => k_is)))
    (case r4 => (refine' Wq.m_mk ?a ?i ?l ?c ?k; (case a => k_is); (case i => k_is); (case l => k_is); (case c => k_is); (case k => k_is)))
    (case r5 => (refine' Wq.m_mk ?a ?i ?l ?c ?k; (case a => k_is); (case i => k_is); (case l => k_is); (case c => k_is); (case k => k_is)))
    (case r6 => (refine' Wq.m_mk ?a ?i ?l ?c ?k; (case a => k_is); (case i => k_is); (case l => k_is); (case c => k_is); (case k => k_is)))
    (case r7 => (refine' Wq.m_mk ?a ?i ?l ?c ?k; (case a => k_is); (case i => k_is); (case l => k_is); (case c => k_is); (case k => k_is)))
    (case r8 => (refine' Wq.m_mk ?a ?i ?l ?c ?k; (case a => k_is); (case i => k_is); (case l => k_is); (case c => k_is); (case k => k_is)))
    (case r9 => (refine' Wq.m_mk ?a ?i ?l ?c ?k; (case a => k_is); (case i => k_is); (case l => k_is); (case c => k_is); (case k => k_is)))
    (case w_pg => first | k_is | rfl)
    (case w_hd => first | k_is | rfl)
    (case w_po => first | k_is | rfl)
    (case w_sa => first | k_is | rfl)
    (case r_pg => first | k_is | rfl)
    (case r_hd => first | k_is | rfl)
    (case r_po => first | k_is | rfl)
    (case r_sa => first | k_is | rfl)
    (case w_mk => first | k_is | rfl)
    (case r_mk => first | k_is | rfl)
    (case w_kp => first | k_is | rfl)
    (case r_kp => first | k_is | rfl)
    (case w_n1 => first | k_is | rfl)
    (case r_n1 => first | k_is | rfl)
    (case r_n2 => first | k_is | rfl)
    (case r_n3 => first | k_is | rfl)
    (case sg => first | k_is | rfl)
    (case z1 => first | k_is | rfl)
    (case z2 => first | k_is | rfl)
    (case z3 => first | k_is | rfl)
    (case z4 => first | k_is | rfl)
    (case z5 => first | k_is | rfl)
    (case z6 => first | k_is | rfl)
    (case z7 => first | k_is | rfl)
    (case xL => first | k_is | rfl)
    (case rv => first | rfl | decide +kernel)
    (case e_sa => first | k_is | rfl)
    (case e_ex => first | k_is | rfl)
    (case e_ty => first | k_is | rfl)
    (case e_kp => first | k_is | rfl)
    (case e_np => first | k_is | rfl)
    (case x_ga => first | k_is | rfl)
    (case x_gg => first | k_is | rfl)
    (case x_ex => first | k_is | rfl)
    (case x_hd => first | k_is | rfl)
    (case m_ex => first | k_is | rfl)
    (case m_hd => first | k_is | rfl)
    (case m_ty => first | k_is | rfl)
    (case m_su => first | k_is | rfl)
    (case c_hg => first | k_is | rfl)
    (case c_hk => first | k_is | rfl)
    (case c_hs => first | k_is | rfl)
    (case c_hd => first | k_is | rfl)
    (case c_ha => first | k_is | rfl)
    (case c_hn => first | k_is | rfl)
    (case c_ht => first | k_is | rfl)
    (case c_hm => first | k_is | rfl)
    (case kt => first | k_is | rfl)

