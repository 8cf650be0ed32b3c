import PyProof.Rows.All
import Wide.All
import OpenK.AllK
import Wide.FinOn
import HandS.Base
import HandS.Call
import HandS.List
import HandS.Comp
import HandS.Ends
import HandS.Dict
import HandS.Iter
import HandS.Text
import HandS.Words
import HandS.WordsList
import HandS.Codes
import HandS.Style
import PySem.Challenge.RW_wordquarry_k03_check_sums
set_option Elab.async false
set_option linter.all false
set_option maxRecDepth 100000
set_option maxHeartbeats 2000000
namespace Wq
open PySem PySem.Spec PyProof.Rows L2
def top (i : Nat) : Stmt := PySem.Challenge.pw_wordquarry_k03_check_sums.main.body.getD i (.Pass ⟨0, 0, 0, 0⟩)
/-! callables by name -/
structure Cl (P : Program) (w : World) (K : PySem.W.Frag) (mg : Str → Option Value) (base : Heap) (k : Nat) (x : Str) (sp : Sp) : Prop where
  ex : ∃ (f : Addr) (fd : FuncData) (ps : List Str), FnOk P w K mg base CX0 k f fd ps sp ∧ mg x = some (.ref f) ∧ PySem.W.keepIn K (.ref f) = true ∧ Binds K fd ps []
structure DefAt (K : PySem.W.Frag) (mg : Str → Option Value) (x : Str) (st : Stmt) : Prop where
  ex : ∃ (f : Addr) (fd : FuncData), Fun K x x st f fd ∧ mg x = some (.ref f)
theorem def_mk {h : Heap} {mg : Str → Option Value} {K : PySem.W.Frag} {x : Str} {st : Stmt} {f : Addr} {oc : Value} {od an : Option Addr} {osl : Array (Option Value)} {kV doc pm cdv ct : Value} (X : K.In h) (G : h.Ns mainGlobals mg)
    (a : PySem.W.nsIn K mainGlobals x = some (some (.ref f))) (l : K.lookup f = some ⟨oc, od, .func (PySem.W.fnOf x x (defArgs st) (defBody st) (defScope st) .none kV doc pm an cdv ct), osl⟩)
    (c : PySem.W.codeIn K cdv x = true) (k : PySem.W.keepIn K (.ref f) = true) : DefAt K mg x st := ⟨f, _, fun_mk l c k, PySem.W.mg_of X G a⟩
section
variable {X : Cx} {k j : Nat} {x : Str} {sp : Sp} {p pos : Pos} {e : Expr} {es : List Expr} {t : TA}
theorem pe_cl (c : Cl X.prog X.w X.K X.mg X.base k x sp) (hr : Room j X.A) (hk : k ≤ j) (hg : Gl X x) (ha : PA X (e :: es) t)
    (hdb : (x == ("__debug__" : Str)) = false := by decide) (he : starEach (e :: es) X.env = (false, eval e X.env) :: starEach es X.env := by rfl) (hpl : (backTo pos (starEach es X.env)).any (·.1) = false := by rfl) :
    PE X (.Call (.Name x p) (e :: es) [] pos) (tCall sp [] E0 t) := by
  obtain ⟨f, fd, ps, F, hm, kp, b⟩ := c.ex
  exact pe_call F (hr.mono hk) hg hm kp b .nil pass0 ha hdb he hpl
end
section
variable {P : Program} {w : World} {K : PySem.W.Frag} {mg : Str → Option Value} {base : Heap}
theorem cl_of {x : Str} {st : Stmt} {N ps : List Str} {k : Nat} {sp : Sp} (D : DefAt K mg x st) (S : FnScope N ps (defScope st)) (len : ∀ vs H Q E, sp vs H Q E → vs.length = ps.length)
    (hb : ∀ (kV doc pm : Value) (an : Option Addr) (cdv ct : Value) (us : List Value), us.length = ps.length → bindArgs (PySem.W.fnOf x x (defArgs st) (defBody st) (defScope st) .none kV doc pm an cdv ct) ⟨us, []⟩ = pure (ps.zip us))
    (hbody : ∀ (f : Addr) (cdv : Value) (A : Around) (outer : List Env) (s : Shared) (H : Hp) (vs : List V) (Q : VK) (E : XK), Room k (A.deeper (envOfC x (defScope st) s.heap.objs.size f cdv)) → sp vs H Q E →
      ∃ t, PSs (cxOf CX0 P w K mg base N x (defScope st) f cdv A outer s H E).nox (defBody st) t ∧ t { nx := fun _ H' => Q .non H', rt := Q } (start N vs) H) : Cl P w K mg base (k + 1) x sp := by
  obtain ⟨f, fd, F, hm⟩ := D.ex
  exact ⟨f, fd, ps, F.ok S len (hbody f), hm, F.kp, F.binds hb⟩
/-! what the law's own words want of the top -/
structure Txt (K : PySem.W.Frag) (mg : Str → Option Value) : Prop where
  len : mg "len" = none
  int : mg "int" = none
  list : mg "list" = none
  range : mg "range" = none
  tuple : mg "tuple" = none
  min : mg "min" = none
/-! the pen -/
abbrev kv (s : Str) (v : V) : Key × V := (Sum.inr s, v)
def penD (c : Addr) (i d n f : Int) : List (Key × V) := [kv "cells" (.ref c), kv "at" (.int i), kv "digits" (.int d), kv "count" (.int n), kv "fold" (.int f)]
structure PenAt (H : Hp) (p c : Addr) (m : Nat) : Prop where
  ex : ∃ (ns : List Int) (i d f : Int) (n : Nat), H p = some (.dK (penD c i d n f)) ∧ H c = some (.lst (ns.map V.int)) ∧ 0 ≤ i ∧ 0 ≤ d ∧ n ≤ m ∧ 0 ≤ f ∧ f < 2147483587
theorem SqL_upd {H : Hp} {p c : Addr} {xs : List V} {kvs : List (Key × V)} {o : HO} (h : SqL K H c xs) (hp : H p = some (.dK kvs)) : SqL K (upd H p o) c xs := by
  rcases h with (h | ⟨u, h⟩) | h
  · refine .inl (.inl ?_)
    rw [upd_ne (ne_of h hp (by intro z; cases z))]
    exact h
  · refine .inl (.inr ⟨u, ?_⟩)
    rw [upd_ne (ne_of h hp (by intro z; cases z))]
    exact h
  · exact .inr h
section
variable {H : Hp} {p c : Addr} {i d n f x : Int}
theorem g_cells (h : H p = some (.dK (penD c i d n f))) : DGet H p (.str "cells") (some (.ref c)) := DGet.k (k := Sum.inr "cells") h
theorem g_at (h : H p = some (.dK (penD c i d n f))) : DGet H p (.str "at") (some (.int i)) := DGet.k (k := Sum.inr "at") h
theorem g_digits (h : H p = some (.dK (penD c i d n f))) : DGet H p (.str "digits") (some (.int d)) := DGet.k (k := Sum.inr "digits") h
theorem g_count (h : H p = some (.dK (penD c i d n f))) : DGet H p (.str "count") (some (.int n)) := DGet.k (k := Sum.inr "count") h
theorem g_fold (h : H p = some (.dK (penD c i d n f))) : DGet H p (.str "fold") (some (.int f)) := DGet.k (k := Sum.inr "fold") h
theorem p_count (h : H p = some (.dK (penD c i d n f))) : DPut H p (.str "count") (.int x) (upd H p (.dK (penD c i d x f))) := DPut.k (k := Sum.inr "count") h (by show 5 < sizeLine; decide)
theorem p_at : DPut (upd H p (.dK (penD c i d n f))) p (.str "at") (.int x) (upd H p (.dK (penD c x d n f))) := by
  have e := DPut.k (k := Sum.inr "at") (v := .int x) (upd_same (H := H) (a := p) (o := .dK (penD c i d n f))) (by show 5 < sizeLine; decide)
  rw [upd_upd] at e
  exact e
theorem p_digits : DPut (upd H p (.dK (penD c i d n f))) p (.str "digits") (.int x) (upd H p (.dK (penD c i x n f))) := by
  have e := DPut.k (k := Sum.inr "digits") (v := .int x) (upd_same (H := H) (a := p) (o := .dK (penD c i d n f))) (by show 5 < sizeLine; decide)
  rw [upd_upd] at e
  exact e
theorem p_fold : DPut (upd H p (.dK (penD c i d n f))) p (.str "fold") (.int x) (upd H p (.dK (penD c i d n x))) := by
  have e := DPut.k (k := Sum.inr "fold") (v := .int x) (upd_same (H := H) (a := p) (o := .dK (penD c i d n f))) (by show 5 < sizeLine; decide)
  rw [upd_upd] at e
  exact e
end
theorem PenAt.mono {H : Hp} {p c : Addr} {m m' : Nat} (h : PenAt H p c m) (hm : m ≤ m') : PenAt H p c m' := by
  obtain ⟨ns, i, d, f, n, h1, h2, h3, h4, h5, h6, h7⟩ := h.ex
  exact ⟨ns, i, d, f, n, h1, h2, h3, h4, by omega, h6, h7⟩
theorem PenAt.same {H H' : Hp} {p c : Addr} {m : Nat} (h : PenAt H p c m) (s : Same H H') : PenAt H' p c m := by
  obtain ⟨ns, i, d, f, n, h1, h2, h3⟩ := h.ex
  exact ⟨ns, i, d, f, n, s _ _ h1, s _ _ h2, h3⟩
theorem PenAt.dict {H : Hp} {p c : Addr} {m : Nat} (h : PenAt H p c m) : ∃ kvs, H p = some (.dK kvs) := by
  obtain ⟨ns, i, d, f, n, h1, _⟩ := h.ex
  exact ⟨_, h1⟩
theorem PenAt.cells {H : Hp} {p c : Addr} {m : Nat} (h : PenAt H p c m) : ∃ xs, H c = some (.lst xs) := by
  obtain ⟨ns, i, d, f, n, h1, h2, _⟩ := h.ex
  exact ⟨_, h2⟩
theorem PenAt.put {H : Hp} {p c l : Addr} {m : Nat} {o : HO} (h : PenAt H p c m) (hp : p ≠ l) (hc : c ≠ l) : PenAt (upd H l o) p c m := by
  obtain ⟨ns, i, d, f, n, h1, h2, h3⟩ := h.ex
  exact ⟨ns, i, d, f, n, by rw [upd_ne hp]; exact h1, by rw [upd_ne hc]; exact h2, h3⟩
theorem PenAt.ne {H : Hp} {p c l : Addr} {m : Nat} {o : HO} (h : PenAt H p c m) (hl : H l = some o) (ho : ∀ kvs, o ≠ .dK kvs) : l ≠ p := by
  obtain ⟨kvs, hk⟩ := h.dict
  exact ne_of hl hk (ho kvs)
/-- the pen moved on: lists stay -/
theorem PenAt.lst {H : Hp} {p c l : Addr} {m : Nat} {xs : List V} {o : HO} (h : PenAt H p c m) (hl : H l = some (.lst xs)) : upd H p o l = some (.lst xs) := by
  rw [upd_ne (h.ne hl (by intro kvs z; cases z))]
  exact hl
abbrev sPen : Stmt := top 10
abbrev sDraw : Stmt := top 11
abbrev sPick : Stmt := top 12
def spPen (K : PySem.W.Frag) : Sp := fun vs H Q _ => ∃ (a : Addr) (ns : List Int), vs = [.ref a] ∧ SqL K H a (ns.map V.int) ∧ ∀ p c H', H p = none → Same H H' → PenAt H' p c 0 → Q (.ref p) H'
def spDraw (K : PySem.W.Frag) : Sp := fun vs H Q _ => ∃ (p c : Addr) (m : Nat) (many : Int), vs = [.ref p, .int many] ∧ PenAt H p c m ∧ m < 1099511627776 ∧ 0 < many ∧ many < 1073741824 ∧
  ∀ (v : Int) (o : HO), 0 ≤ v → v < many → PenAt (upd H p o) p c (m + 1) → Q (.int v) (upd H p o)
def spPick (K : PySem.W.Frag) : Sp := fun vs H Q _ => ∃ (p c l : Addr) (m : Nat) (xs : List V), vs = [.ref p, .ref l] ∧ PenAt H p c m ∧ SqL K H l xs ∧ m < 1099511627776 ∧ 0 < xs.length ∧ xs.length < 1073741824 ∧
  ∀ (i : Nat) (v : V) (o : HO), xs[i]? = some v → PenAt (upd H p o) p c (m + 1) → Q v (upd H p o)
theorem scPen : FnScope ["_law_script", "_law_fold", "_law_cell"] ["_law_script"] (defScope sPen) := ⟨rfl, rfl, rfl, by decide +kernel, rfl, by decide +kernel, by decide +kernel⟩
theorem scDraw : FnScope ["_law_pen_here", "_law_many", "_law_cell", "_law_digit", "_law_mixed"] ["_law_pen_here", "_law_many"] (defScope sDraw) := ⟨rfl, rfl, rfl, by decide +kernel, rfl, by decide +kernel, by decide +kernel⟩
theorem scPick : FnScope ["_law_pen_here", "_law_some"] ["_law_pen_here", "_law_some"] (defScope sPick) := ⟨rfl, rfl, rfl, by decide +kernel, rfl, by decide +kernel, by decide +kernel⟩
theorem ints_at {ns : List Int} {i : Nat} {y : V} (hi : (ns.map V.int)[i]? = some y) : ∃ z, y = V.int z := by
  rw [List.getElem?_map] at hi
  cases e : ns[i]? with
  | none =>
    rw [e] at hi
    cases hi
  | some z =>
    rw [e] at hi
    exact ⟨z, (Option.some.inj hi).symm⟩
theorem ok_pen (D : DefAt K mg "_law_pen" sPen) (T : Txt K mg) : Cl P w K mg base 1 "_law_pen" (spPen K) := by
  refine cl_of D scPen (fun vs H Q E h => ?_) (fun _ _ _ _ _ _ us hl => match us, hl with | [_], _ => rfl) (fun f cdv A outer s H vs Q E hr h => ?_)
  · obtain ⟨a, ns, rfl, _⟩ := h
    rfl
  · obtain ⟨a, ns, rfl, hS, k⟩ := h
    refine ⟨_, pss_cons (ps_set (i := 1) scPen.nd rfl (Or.inl rfl) pe_int)
      (pss_cons (ps_for PassesOwn.never rfl (pi_list (pv 0)) (pg_name (i := 2) scPen.nd rfl (Or.inl rfl))
        (pss_one (ps_set (i := 1) scPen.nd rfl (Or.inl rfl) (pe_op op_mod (pe_callTy call_int1 (by rfl) (by exact T.int) PyProof.Rows.boot_int (pa_cons (pe_op op_add (pe_op op_mul (pv 1) pe_int) (pv 2)) pa_nil)) pe_int))))
      (pss_one (ps_ret (pe_disp (pps_cons pe_str (pe_callTy call_list_of (by rfl) (by exact T.list) (by decide +kernel) (pa_cons (pv 0) pa_nil)) (pps_cons pe_str pe_int (pps_cons pe_str pe_int (pps_cons pe_str pe_int (pps_cons pe_str (pv 1) pps_nil))))) (by rfl) (by rfl) (fun z => by cases z) (by decide))))), ?_⟩
    refine ⟨_, rfl, a, rfl, ⟨_, hS⟩, for_list (K := K) (a := a) (xs := ns.map V.int) (fun i σ H' => ∃ (n : Int) (v : Option V), σ = [some (.ref a), some (.int n), v] ∧ H' = H ∧ 0 ≤ n ∧ n < 1000000007)
      ⟨0, none, rfl, rfl, by decide, by decide⟩ (fun i σ H' _ ⟨_, _, _, e, _, _⟩ => by rw [e]; exact hS) ?_ ?_⟩
    · rintro i y σ H' hi ⟨n, v, rfl, rfl, h0, h1⟩
      obtain ⟨z, rfl⟩ := ints_at hi
      refine ⟨_, rfl, _, _, rfl, rfl, .inl ⟨by omega, by omega⟩, _, rfl, _, _, rfl, rfl, .inl ⟨_, rfl, _, _, rfl, rfl, (by show (0 : Int) < 1000000007; decide), ?_⟩⟩
      exact ⟨(n * 41 + z) % 1000000007, _, rfl, rfl, Int.emod_nonneg _ (by decide), Int.emod_lt_of_pos _ (by decide)⟩
    · rintro σ H' ⟨n, v, rfl, rfl, h0, h1⟩
      intro p hp
      have s1 : Same H' (upd H' p (.dK [])) := fun b o e => by rw [upd_ne (ne_of_none e hp)]; exact e
      refine ⟨_, rfl, a, _, rfl, .inl (s1.seq hS), fun l hl => ?_⟩
      have npl : p ≠ l := ne_of_none upd_same hl
      have s2 : Same H' (upd (upd (upd H' p (.dK [])) l (.lst (ns.map V.int))) p (.dK (mergeK [] (penD l 0 0 0 n)))) := fun b o e => by
        rw [upd_ne (ne_of_none e hp), upd_ne (ne_of_none (s1 b o e) hl)]
        exact s1 b o e
      refine ⟨_, rfl, by rw [upd_ne npl, upd_same], penD l 0 0 0 n, rfl, (by show 5 ≤ 15; decide), ?_⟩
      refine k p l _ hp s2 ⟨ns, 0, 0, n, 0, upd_same, ?_, by decide, by decide, by decide, h0, by omega⟩
      rw [upd_ne npl.symm, upd_same]
theorem ok_draw (D : DefAt K mg "_law_draw" sDraw) (T : Txt K mg) : Cl P w K mg base 1 "_law_draw" (spDraw K) := by
  refine cl_of D scDraw (fun vs H Q E h => ?_) (fun _ _ _ _ _ _ us hl => match us, hl with | [_, _], _ => rfl) (fun f cdv A outer s H vs Q E hr h => ?_)
  · obtain ⟨p, c, m, many, rfl, _⟩ := h
    rfl
  · obtain ⟨p, c, m, many, rfl, HP, hm, m0, m1, k⟩ := h
    obtain ⟨ns, i, d, f, n, hH, hc, hi, hd, hn, hf0, hf1⟩ := HP.ex
    have hu := hu_of hr
    refine ⟨_, pss_cons (ps_dput hu (pv 0) pe_str (pe_op op_add (pe_dget hu (pv 0) pe_str (fun _ _ => rfl)) pe_int) rfl)
      (C8.pss_cut (ps_if (PW.pt (pw_and (pt_cmpR op_eq (pe_dget hu (pv 0) pe_str (fun _ _ => rfl)) pe_int (nomark _)) (pw_and1 (pt_cmpR op_lt (pe_dget hu (pv 0) pe_str (fun _ _ => rfl)) (pe_callB call_len_seq (by rfl) (by exact T.len) PySem.boot_len (pa_cons (pe_dget hu (pv 0) pe_str (fun _ _ => rfl)) pa_nil)) (nomark _)))))
        (pss_cons (ps_set (i := 2) scDraw.nd rfl (Or.inl rfl) (pe_ix ix_list (pe_dget hu (pv 0) pe_str (fun _ _ => rfl)) (pe_dget hu (pv 0) pe_str (fun _ _ => rfl)) (fun _ _ => rfl)))
        (pss_cons (ps_dput hu (pv 0) pe_str (pe_op op_add (pe_dget hu (pv 0) pe_str (fun _ _ => rfl)) pe_int) rfl)
        (pss_one (ps_if (pt_cmpR op_ge (pv 2) (pe_op op_pow pe_int pe_int) (nomark _))
          (pss_one (ps_dput hu (pv 0) pe_str (pe_op op_sub (pv 2) (pe_op op_pow pe_int pe_int)) rfl))
          (pss_one (ps_dput hu (pv 0) pe_str (pe_op op_mod (pe_callTy call_int1 (by rfl) (by exact T.int) PyProof.Rows.boot_int (pa_cons (pe_op op_add (pe_op op_mul (pe_dget hu (pv 0) pe_str (fun _ _ => rfl)) pe_int) (pv 2)) pa_nil)) pe_int) rfl))))))
        pss_nil)
      (pss_cons (ps_if (pt_cmpR op_gt (pe_dget hu (pv 0) pe_str (fun _ _ => rfl)) pe_int (nomark _))
        (pss_cons (ps_set (i := 3) scDraw.nd rfl (Or.inl rfl) (pe_op op_modN (pe_callTy call_int1 (by rfl) (by exact T.int) PyProof.Rows.boot_int (pa_cons (pe_dget hu (pv 0) pe_str (fun _ _ => rfl)) pa_nil)) (pv 1)))
        (pss_cons (ps_dput hu (pv 0) pe_str (pe_op op_fdivN (pe_dget hu (pv 0) pe_str (fun _ _ => rfl)) (pv 1)) rfl)
        (pss_one (ps_ret (pv 3))))) pss_nil)
      (pss_cons (ps_set (i := 4) scDraw.nd rfl (Or.inl rfl) (pe_op op_add (pe_op op_add (pe_dget hu (pv 0) pe_str (fun _ _ => rfl)) (pe_op op_mul (pe_dget hu (pv 0) pe_str (fun _ _ => rfl)) pe_int)) pe_int))
      (pss_one (ps_ret (pe_op op_modN (pe_op op_fdivN (pe_callTy call_int1 (by rfl) (by exact T.int) PyProof.Rows.boot_int (pa_cons (pe_op op_modN (pe_op op_pow (pv 4) pe_int) pe_int) pa_nil)) pe_int) (pv 1))))))), ?_⟩
    -- count
    refine ⟨_, rfl, p, _, rfl, g_count hH, _, _, rfl, rfl, _, rfl, p, _, rfl, p_count hH, ?_⟩
    have S1 : ∀ o, upd H p o c = some (.lst (ns.map V.int)) := fun o => HP.lst hc
    have S0 : ∀ o, SqL K (upd H p o) c (ns.map V.int) := fun o => .inl (.inl (S1 o))
    refine ⟨fun σ H' => ∃ (i' d' f' : Int) (v : Option V), σ = [some (.ref p), some (.int many), v, none, none] ∧ H' = upd H p (.dK (penD c i' d' ((n : Int) + 1) f')) ∧ 0 ≤ i' ∧ 0 ≤ d' ∧ 0 ≤ f' ∧ f' < 2147483587, ?_, ?_⟩
    · -- the digits are used up?
      refine ⟨_, rfl, p, _, rfl, g_digits upd_same, rfl, _, rfl, ?_⟩
      refine ite2 (fun _ => ?_) (fun _ => ⟨i, d, f, none, rfl, rfl, hi, hd, hf0, hf1⟩)
      refine ⟨_, rfl, p, _, rfl, g_at upd_same, _, rfl, p, _, rfl, g_cells upd_same, c, _, rfl, .inl (S0 _), _, _, rfl, rfl, _, rfl, ?_⟩
      refine ite2 (fun hlt => ?_) (fun _ => ⟨i, d, f, none, rfl, rfl, hi, hd, hf0, hf1⟩)
      have hlt := of_decide_eq_true hlt
      rw [List.length_map] at hlt
      obtain ⟨z, hz⟩ : ∃ z, (ns.map V.int)[i.toNat]? = some (V.int z) := by
        refine ⟨ns[i.toNat]'(by omega), ?_⟩
        rw [List.getElem?_map, List.getElem?_eq_getElem (by omega)]
        rfl
      have hat : atI (ns.map V.int) i = some (V.int z) := by
        have e : i = ((i.toNat : Nat) : Int) := by omega
        rw [e]
        exact atI_nat hz
      refine ⟨_, rfl, p, _, rfl, g_cells upd_same, _, rfl, p, _, rfl, g_at upd_same, c, _, _, _, rfl, rfl, S0 _, hat, ?_⟩
      refine ⟨_, rfl, p, _, rfl, g_at upd_same, _, _, rfl, rfl, _, rfl, p, _, rfl, p_at, ?_⟩
      refine ⟨_, rfl, _, _, rfl, rfl, ⟨by decide, by decide, by decide⟩, _, _, rfl, rfl, _, rfl, ?_⟩
      refine ite2 (fun hge => ?_) (fun _ => ?_)
      · have hge := of_decide_eq_true hge
        refine ⟨_, rfl, _, _, rfl, rfl, ⟨by decide, by decide, by decide⟩, _, _, rfl, rfl, _, rfl, p, _, rfl, p_digits, ?_⟩
        exact ⟨_, _, f, _, rfl, rfl, by omega, Int.sub_nonneg.mpr hge, hf0, hf1⟩
      · refine ⟨_, rfl, p, _, rfl, g_fold upd_same, _, _, rfl, rfl, .inl ⟨by omega, by omega⟩, _, rfl, _, _, rfl, rfl, .inl ⟨_, rfl, _, _, rfl, rfl, (by show (0 : Int) < 2147483587; decide), _, rfl, p, _, rfl, p_fold, ?_⟩⟩
        exact ⟨_, _, _, _, rfl, rfl, by omega, hd, Int.emod_nonneg _ (by decide), Int.emod_lt_of_pos _ (by decide)⟩
    · rintro σ H' ⟨i', d', f', v, rfl, rfl, hi', hd', hf0', hf1'⟩
      have pen : ∀ d'', 0 ≤ d'' → PenAt (upd H p (.dK (penD c i' d'' ((n : Int) + 1) f'))) p c (m + 1) := fun d'' h0 => ⟨ns, i', d'', f', n + 1, upd_same, S1 _, hi', h0, by omega, hf0', hf1'⟩
      refine ⟨_, rfl, p, _, rfl, g_digits upd_same, _, _, rfl, rfl, _, rfl, ?_⟩
      refine ite2 (fun _ => ?_) (fun _ => ?_)
      · refine ⟨_, rfl, p, _, rfl, g_digits upd_same, .inl ⟨_, rfl, _, rfl, _, _, rfl, rfl, by omega, ?_⟩⟩
        refine ⟨_, rfl, p, _, rfl, g_digits upd_same, _, rfl, _, _, rfl, rfl, ⟨by omega, by omega⟩, _, rfl, p, _, rfl, p_digits, ?_⟩
        refine ⟨_, rfl, ?_⟩
        refine k _ _ (Int.fmod_nonneg_of_pos _ m0) (Int.fmod_lt_of_pos _ m0) (pen _ ?_)
        rw [Int.fdiv_eq_ediv_of_nonneg _ (by omega)]
        exact Int.ediv_nonneg hd' (by omega)
      · refine ⟨_, rfl, p, _, rfl, g_fold upd_same, _, rfl, p, _, rfl, g_count upd_same, _, _, rfl, rfl, .inl ⟨by omega, by omega⟩, _, _, rfl, rfl, _, _, rfl, rfl, ?_⟩
        refine ⟨_, rfl, _, _, rfl, rfl, ⟨by decide, by decide, by omega⟩, _, _, rfl, rfl, (by show (2305843009213693951 : Int) ≠ 0; decide), .inl ⟨_, rfl, _, _, rfl, rfl, ⟨by decide, by decide⟩, _, rfl, _, _, rfl, rfl, by omega, ?_⟩⟩
        exact k _ _ (Int.fmod_nonneg_of_pos _ m0) (Int.fmod_lt_of_pos _ m0) (pen _ hd')
theorem ok_pick (D : DefAt K mg "_law_pick" sPick) (T : Txt K mg) (CD : Cl P w K mg base 1 "_law_draw" (spDraw K)) : Cl P w K mg base 2 "_law_pick" (spPick K) := by
  refine cl_of D scPick (fun vs H Q E h => ?_) (fun _ _ _ _ _ _ us hl => match us, hl with | [_, _], _ => rfl) (fun f cdv A outer s H vs Q E hr h => ?_)
  · obtain ⟨p, c, l, m, xs, rfl, _⟩ := h
    rfl
  · obtain ⟨p, c, l, m, xs, rfl, HP, hS, hm, m0, m1, k⟩ := h
    refine ⟨_, pss_one (ps_ret (pe_ix ix_list (pv 1) (pe_cl CD hr (Nat.le_refl _) rfl (pa_cons (pv 0) (pa_cons (pe_callB call_len_seq (by rfl) (by exact T.len) PySem.boot_len (pa_cons (pv 1) pa_nil)) pa_nil))) (fun _ _ => rfl))), ?_⟩
    refine ⟨_, rfl, _, rfl, _, rfl, l, _, rfl, .inl hS, ?_⟩
    obtain ⟨kvs, hk⟩ := HP.dict
    refine ⟨p, c, m, _, rfl, HP, hm, by omega, by omega, fun v o v0 v1 HP' => ?_⟩
    obtain ⟨u, hv⟩ : ∃ u, xs[v.toNat]? = some u := ⟨xs[v.toNat]'(by omega), List.getElem?_eq_getElem (by omega)⟩
    have hat : atI xs v = some u := by
      have e : v = ((v.toNat : Nat) : Int) := by omega
      rw [e]
      exact atI_nat hv
    refine ⟨l, xs, v, u, rfl, rfl, SqL_upd hS hk, hat, ?_⟩
    exact k _ _ _ hv HP'
end
end Wq

namespace Crc
def mx (l : Nat) : Nat := (2 * l) % 2 ^ 32 ^^^ (if l.testBit 31 then 141 else 0)
def it : Nat → Nat → Nat
  | 0, a => a
  | n + 1, a => mx (it n a)
theorem two_mul_xor (a b : Nat) : 2 * (a ^^^ b) = 2 * a ^^^ 2 * b := by
  have h := Nat.shiftLeft_xor_distrib (a := a) (b := b) (i := 1)
  simp only [Nat.shiftLeft_eq, Nat.pow_one] at h
  rw [Nat.mul_comm, h, Nat.mul_comm, Nat.mul_comm b]
theorem xor_mod (a b k : Nat) : (a ^^^ b) % 2 ^ k = a % 2 ^ k ^^^ b % 2 ^ k := Nat.xor_mod_two_pow
theorem x4 (a b c d : Nat) : a ^^^ b ^^^ (c ^^^ d) = a ^^^ c ^^^ (b ^^^ d) := by
  rw [Nat.xor_assoc, Nat.xor_assoc, ← Nat.xor_assoc b, Nat.xor_comm b c, Nat.xor_assoc c]
theorem sel_xor (p q : Bool) (k : Nat) : (if (p ^^ q) = true then k else 0) = (if p = true then k else 0) ^^^ (if q = true then k else 0) := by
  cases p <;> cases q <;> simp
theorem mx_xor (a b : Nat) : mx (a ^^^ b) = mx a ^^^ mx b := by
  unfold mx
  rw [two_mul_xor, xor_mod, Nat.testBit_xor, sel_xor, x4]
theorem mx_0 : mx 0 = 0 := by decide +kernel
theorem mx_lt (a : Nat) : mx a < 2 ^ 32 := by
  unfold mx
  refine Nat.xor_lt_two_pow (Nat.mod_lt _ (by decide)) ?_
  split <;> decide
theorem mx_small {a : Nat} (h : a < 2 ^ 31) : mx a = 2 * a := by
  unfold mx
  rw [Nat.testBit_lt_two_pow h, Nat.mod_eq_of_lt (by omega)]
  simp
theorem it_xor (n a b : Nat) : it n (a ^^^ b) = it n a ^^^ it n b := by
  induction n with
  | zero => rfl
  | succ n ih => rw [it, it, it, ih, mx_xor]
theorem it_0 (n : Nat) : it n 0 = 0 := by
  induction n with
  | zero => rfl
  | succ n ih => rw [it, ih, mx_0]
theorem it_mx (n a : Nat) : it n (mx a) = mx (it n a) := by
  induction n with
  | zero => rfl
  | succ n ih => rw [it, it, ih]
theorem it_add (n m a : Nat) : it (n + m) a = it n (it m a) := by
  induction n with
  | zero => rw [Nat.zero_add]; rfl
  | succ n ih => rw [Nat.succ_add, it, it, ih]
theorem it_lt {a : Nat} (n : Nat) (h : a < 2 ^ 32) : it n a < 2 ^ 32 := by
  cases n with
  | zero => exact h
  | succ n => exact mx_lt _
theorem mx_ne {a : Nat} (h : a < 2 ^ 32) (h0 : a ≠ 0) : mx a ≠ 0 := by
  intro e
  by_cases hb : a < 2 ^ 31
  · rw [mx_small hb] at e
    omega
  · have ht : a.testBit 31 = true := by
      rw [Nat.testBit_eq_decide_div_mod_eq]
      have : a / 2 ^ 31 = 1 := by omega
      rw [this]
      decide
    unfold mx at e
    rw [ht, if_pos rfl] at e
    have e1 : 2 * a % 2 ^ 32 = 141 := by
      have e2 : (2 * a % 2 ^ 32 ^^^ 141) ^^^ 141 = 0 ^^^ 141 := by rw [e]
      rw [Nat.xor_assoc, Nat.xor_self, Nat.xor_zero, Nat.zero_xor] at e2
      exact e2
    omega
theorem it_ne {a : Nat} (n : Nat) (h : a < 2 ^ 32) (h0 : a ≠ 0) : it n a ≠ 0 := by
  induction n with
  | zero => exact h0
  | succ n ih => exact mx_ne (it_lt n h) ih
theorem pow_add_xor {k b : Nat} (h : b < 2 ^ k) : 2 ^ k + b = 2 ^ k ^^^ b := by
  apply Nat.eq_of_testBit_eq
  intro i
  rw [Nat.testBit_xor, Nat.testBit_two_pow]
  by_cases hi : i = k
  · subst hi
    rw [Nat.testBit_two_pow_add_eq, Nat.testBit_lt_two_pow h]
    simp
  · by_cases hlt : i < k
    · rw [Nat.testBit_two_pow_add_gt hlt]
      have : decide (k = i) = false := by simp; omega
      rw [this]; simp
    · have h1 : 2 ^ k + b < 2 ^ i := by
        have : 2 ^ (k + 1) ≤ 2 ^ i := Nat.pow_le_pow_right (by decide) (by omega)
        rw [Nat.pow_succ] at this
        omega
      have h2 : b < 2 ^ i := by omega
      rw [Nat.testBit_lt_two_pow h1, Nat.testBit_lt_two_pow h2]
      have : decide (k = i) = false := by simp; omega
      rw [this]; rfl
theorem lin_ind {P : Nat → Prop} (h0 : P 0) (hx : ∀ a b, P a → P b → P (a ^^^ b)) : ∀ k, (∀ i, i < k → P (2 ^ i)) → ∀ a, a < 2 ^ k → P a := by
  intro k
  induction k with
  | zero =>
    intro _ a ha
    have : a = 0 := by omega
    rw [this]; exact h0
  | succ k ih =>
    intro hp a ha
    rw [Nat.pow_succ] at ha
    by_cases h : a < 2 ^ k
    · exact ih (fun i hi => hp i (by omega)) a h
    · have e : a = 2 ^ k ^^^ (a - 2 ^ k) := by
        rw [← pow_add_xor (by omega)]
        omega
      rw [e]
      exact hx _ _ (hp k (by omega)) (ih (fun i hi => hp i (by omega)) _ (by omega))
/-- the product -/
def pm : Nat → Nat → Nat → Nat
  | 0, _, _ => 0
  | k + 1, a, b => (if b % 2 = 1 then a else 0) ^^^ pm k (mx a) (b / 2)
theorem pm_xor (k a a' b : Nat) : pm k (a ^^^ a') b = pm k a b ^^^ pm k a' b := by
  induction k generalizing a a' b with
  | zero => simp [pm]
  | succ k ih =>
    rw [pm, pm, pm, mx_xor, ih]
    by_cases h : b % 2 = 1
    · rw [if_pos h, if_pos h, if_pos h, x4]
    · rw [if_neg h, if_neg h, if_neg h, x4]; rfl
theorem pm_0 (k a : Nat) : pm k a 0 = 0 := by
  induction k generalizing a with
  | zero => rfl
  | succ k ih => rw [pm, ih]; simp
theorem pm_0l (k b : Nat) : pm k 0 b = 0 := by
  induction k generalizing b with
  | zero => rfl
  | succ k ih => rw [pm, mx_0, ih]; split <;> rfl
theorem low_xor (b : Nat) : b % 2 ^^^ 2 * (b / 2) = b := by
  have h : b % 2 < 2 ^ 1 := Nat.mod_lt _ (by decide)
  apply Nat.eq_of_testBit_eq
  intro i
  rw [Nat.testBit_xor]
  cases i with
  | zero =>
    simp [Nat.testBit_zero]
  | succ i =>
    rw [Nat.testBit_succ, Nat.testBit_succ, Nat.testBit_succ]
    have : b % 2 / 2 = 0 := by omega
    rw [this, Nat.mul_div_cancel_left _ (by decide)]
    simp
theorem pm_it {k : Nat} (hk : k ≤ 32) (n b : Nat) (hb : b < 2 ^ k) : pm k (it n 1) b = it n b := by
  induction k generalizing n b with
  | zero =>
    have : b = 0 := by omega
    rw [this, it_0]; rfl
  | succ k ih =>
    have h2 : b / 2 < 2 ^ k := by rw [Nat.pow_succ] at hb; omega
    have h31 : b / 2 < 2 ^ 31 := Nat.lt_of_lt_of_le h2 (Nat.pow_le_pow_right (by decide) (by omega))
    rw [pm]
    have e : mx (it n 1) = it (n + 1) 1 := rfl
    rw [e, ih (by omega) _ _ h2]
    have e1 : (if b % 2 = 1 then it n 1 else 0) = it n (b % 2) := by
      by_cases h : b % 2 = 1
      · rw [if_pos h, h]
      · have : b % 2 = 0 := by omega
        rw [if_neg h, this, it_0]
    have e2 : it (n + 1) (b / 2) = it n (2 * (b / 2)) := by
      rw [it, ← it_mx, mx_small h31]
    rw [e1, e2, ← it_xor, low_xor]
theorem it_pow : ∀ i, i < 32 → it i 1 = 2 ^ i := by decide +kernel
theorem pm_pow {a : Nat} (n : Nat) (ha : a < 2 ^ 32) : pm 32 a (it n 1) = it n a := by
  have h1 : it n 1 < 2 ^ 32 := it_lt n (by decide)
  refine lin_ind (P := fun a => pm 32 a (it n 1) = it n a) (by rw [pm_0l, it_0]) (fun a b p q => by rw [pm_xor, p, q, it_xor]) 32 (fun i hi => ?_) a ha
  rw [← it_pow i hi, pm_it (Nat.le_refl _) _ _ h1, ← it_add, ← it_add, Nat.add_comm]
/-- the register -/
def rg (l : Nat) (f : Nat → Bool) : Nat → Nat
  | 0 => l
  | n + 1 => mx (rg l f n) ^^^ (if f n = true then 141 else 0)
theorem rg_xor (l l' : Nat) (f g : Nat → Bool) (n : Nat) : rg (l ^^^ l') (fun t => f t ^^ g t) n = rg l f n ^^^ rg l' g n := by
  induction n with
  | zero => rfl
  | succ n ih => rw [rg, rg, rg, ih, mx_xor, sel_xor, x4]
theorem rg_congr {l : Nat} {f g : Nat → Bool} {n : Nat} (h : ∀ t, t < n → f t = g t) : rg l f n = rg l g n := by
  induction n with
  | zero => rfl
  | succ n ih => rw [rg, rg, ih (fun t ht => h t (by omega)), h n (by omega)]
theorem rg_add (l : Nat) (f : Nat → Bool) (n m : Nat) : rg l f (n + m) = rg (rg l f n) (fun t => f (n + t)) m := by
  induction m with
  | zero => rfl
  | succ m ih => rw [Nat.add_succ, rg, rg, ih]
theorem rg_lt {l : Nat} (f : Nat → Bool) (n : Nat) (h : l < 2 ^ 32) : rg l f n < 2 ^ 32 := by
  cases n with
  | zero => exact h
  | succ n =>
    rw [rg]
    refine Nat.xor_lt_two_pow (mx_lt _) ?_
    split <;> decide
theorem rg_it (l : Nat) (f : Nat → Bool) (n : Nat) : rg l f n = it n l ^^^ rg 0 f n := by
  induction n with
  | zero => rw [rg, rg, it, Nat.xor_zero]
  | succ n ih => rw [rg, rg, it, ih, mx_xor, Nat.xor_assoc]
theorem it32 : it 32 1 = 141 := by decide +kernel
theorem rg_burst (e : Nat → Bool) (p : Nat) (h0 : ∀ t, t < p → e t = false) (hp : e p = true) (h1 : ∀ t, p + 32 ≤ t → e t = false) (n : Nat) (hn : p < n) : rg 0 e n ≠ 0 := by
  have a0 : ∀ n, n ≤ p → rg 0 e n = 0 := by
    intro n
    induction n with
    | zero => intro _; rfl
    | succ n ih =>
      intro h
      rw [rg, ih (by omega), h0 n (by omega), mx_0]
      rfl
  have a1 : ∀ k, k < 32 → ∃ E, rg 0 e (p + 1 + k) = it 32 E ∧ 0 < E ∧ E < 2 ^ (k + 1) := by
    intro k
    induction k with
    | zero =>
      intro _
      refine ⟨1, ?_, by decide, by decide⟩
      rw [Nat.add_zero, rg, a0 p (Nat.le_refl _), hp, mx_0, it32]
      rfl
    | succ k ih =>
      intro hk
      obtain ⟨E, e1, e2, e3⟩ := ih (by omega)
      have hE : E < 2 ^ 31 := Nat.lt_of_lt_of_le e3 (Nat.pow_le_pow_right (by decide) (by omega))
      refine ⟨2 * E + (if e (p + 1 + k) = true then 1 else 0), ?_, by omega, ?_⟩
      · rw [← Nat.add_assoc, rg, e1]
        have e4 : 2 * E + (if e (p + 1 + k) = true then 1 else 0) = mx E ^^^ (if e (p + 1 + k) = true then 1 else 0) := by
          rw [mx_small hE]
          have := low_xor (2 * E + (if e (p + 1 + k) = true then 1 else 0))
          have q1 : (2 * E + (if e (p + 1 + k) = true then 1 else 0)) % 2 = (if e (p + 1 + k) = true then 1 else 0) := by split <;> omega
          have q2 : (2 * E + (if e (p + 1 + k) = true then 1 else 0)) / 2 = E := by split <;> omega
          rw [q1, q2, Nat.xor_comm] at this
          exact this.symm
        rw [e4, it_xor, it_mx]
        congr 1
        split
        · exact it32.symm
        · exact (it_0 32).symm
      · rw [Nat.pow_succ]
        split <;> omega
  have a2 : ∀ k, rg 0 e (p + 32 + k) ≠ 0 := by
    intro k
    induction k with
    | zero =>
      obtain ⟨E, e1, e2, e3⟩ := a1 31 (by decide)
      have : p + 32 + 0 = p + 1 + 31 := by omega
      rw [this, e1]
      exact it_ne 32 e3 (by omega)
    | succ k ih =>
      rw [← Nat.add_assoc, rg, h1 (p + 32 + k) (by omega)]
      have : (if false = true then 141 else 0) = 0 := rfl
      rw [this, Nat.xor_zero]
      exact mx_ne (rg_lt e _ (by decide)) ih
  by_cases h : n < p + 32
  · obtain ⟨E, e1, e2, e3⟩ := a1 (n - (p + 1)) (by omega)
    have : p + 1 + (n - (p + 1)) = n := by omega
    rw [this] at e1
    rw [e1]
    exact it_ne 32 (Nat.lt_of_lt_of_le e3 (Nat.pow_le_pow_right (by decide) (by omega))) (by omega)
  · have := a2 (n - (p + 32))
    have e : p + 32 + (n - (p + 32)) = n := by omega
    rw [e] at this
    exact this
end Crc

namespace Crc
def bt (x t : Nat) : Bool := x.testBit (7 - t)
def top (l x : Nat) : Nat := l >>> 24 ^^^ x
def chk (l x : Nat) : Nat := ((((l % 2 ^ 24) <<< 8 ^^^ top l x) ^^^ top l x <<< 2) ^^^ top l x <<< 3) ^^^ top l x <<< 7
theorem top_xor (l l' x x' : Nat) : top (l ^^^ l') (x ^^^ x') = top l x ^^^ top l' x' := by
  unfold top
  rw [Nat.shiftRight_xor_distrib, x4]
theorem chk_xor (l l' x x' : Nat) : chk (l ^^^ l') (x ^^^ x') = chk l x ^^^ chk l' x' := by
  unfold chk
  rw [top_xor, xor_mod]
  simp only [Nat.shiftLeft_xor_distrib]
  rw [x4 (_ <<< 8), x4 _ _ (_ <<< 2), x4 _ _ (_ <<< 3), x4 _ _ (_ <<< 7)]
theorem bt_xor (x y t : Nat) : bt (x ^^^ y) t = (bt x t ^^ bt y t) := Nat.testBit_xor ..
theorem chk_l {l : Nat} (h : l < 2 ^ 32) : chk l 0 = rg l (bt 0) 8 := by
  refine lin_ind (P := fun l => chk l 0 = rg l (bt 0) 8) (by decide +kernel) (fun a b p q => ?_) 32 ?_ l h
  · have e := chk_xor a b 0 0
    rw [Nat.xor_self] at e
    rw [e, p, q, ← rg_xor]
    refine rg_congr fun t _ => ?_
    rw [bt]; simp
  · decide +kernel
theorem chk_x {x : Nat} (h : x < 2 ^ 8) : chk 0 x = rg 0 (bt x) 8 := by
  refine lin_ind (P := fun x => chk 0 x = rg 0 (bt x) 8) (by decide +kernel) (fun a b p q => ?_) 8 ?_ x h
  · have e := chk_xor 0 0 a b
    rw [Nat.xor_self] at e
    rw [e, p, q, ← rg_xor]
    refine rg_congr fun t _ => ?_
    rw [bt_xor]
  · decide +kernel
theorem chk_rg {l x : Nat} (hl : l < 2 ^ 32) (hx : x < 2 ^ 8) : chk l x = rg l (bt x) 8 := by
  have e := chk_xor l 0 0 x
  rw [Nat.xor_zero, Nat.zero_xor] at e
  have e2 := rg_xor l 0 (bt 0) (bt x) 8
  rw [Nat.xor_zero] at e2
  rw [e, chk_l hl, chk_x hx, ← e2]
  refine rg_congr fun t _ => ?_
  simp [bt]
def rowBit (row : List Nat) (t : Nat) : Bool := bt (row.getD (t / 8) 0) (t % 8)
theorem rowBit_at {row : List Nat} {i x t : Nat} (h : row[i]? = some x) (ht : t < 8) : rowBit row (8 * i + t) = bt x t := by
  unfold rowBit
  have e1 : (8 * i + t) / 8 = i := by omega
  have e2 : (8 * i + t) % 8 = t := by omega
  rw [e1, e2, List.getD_eq_getElem?_getD, h]
  rfl
theorem rowBit_out {row : List Nat} {t : Nat} (h : 8 * row.length ≤ t) : rowBit row t = false := by
  unfold rowBit
  rw [List.getD_eq_getElem?_getD, List.getElem?_eq_none (by omega)]
  simp [bt]
def ckTo (row : List Nat) (k : Nat) : Nat := rg 141 (rowBit row) (8 * k)
def ck (row : List Nat) : Nat := ckTo row row.length
theorem ckTo_lt (row : List Nat) (k : Nat) : ckTo row k < 2 ^ 32 := rg_lt _ _ (by decide)
theorem ckTo_step {row : List Nat} {i x : Nat} (h : row[i]? = some x) (hx : x < 256) : ckTo row (i + 1) = chk (ckTo row i) x := by
  rw [chk_rg (ckTo_lt _ _) hx]
  unfold ckTo
  rw [Nat.mul_succ, rg_add]
  exact rg_congr fun t ht => rowBit_at h ht
theorem rowBit_left {a b : List Nat} {t : Nat} (h : t < 8 * a.length) : rowBit (a ++ b) t = rowBit a t := by
  unfold rowBit
  rw [List.getD_eq_getElem?_getD, List.getD_eq_getElem?_getD, List.getElem?_append_left (by omega)]
theorem rowBit_right (a b : List Nat) (t : Nat) : rowBit (a ++ b) (8 * a.length + t) = rowBit b t := by
  unfold rowBit
  rw [List.getD_eq_getElem?_getD, List.getD_eq_getElem?_getD, List.getElem?_append_right (by omega)]
  have e1 : (8 * a.length + t) / 8 - a.length = t / 8 := by omega
  have e2 : (8 * a.length + t) % 8 = t % 8 := by omega
  rw [e1, e2]
theorem ck_joined (a b : List Nat) : ck (a ++ b) = pm 32 (ck a ^^^ 141) (it (8 * b.length) 1) ^^^ ck b := by
  have ha : ck a < 2 ^ 32 := ckTo_lt _ _
  rw [pm_pow _ (Nat.xor_lt_two_pow ha (by decide))]
  unfold ck ckTo
  rw [List.length_append, Nat.mul_add, rg_add, rg_congr (g := rowBit a) fun t ht => rowBit_left ht, rg_congr (g := rowBit b) fun t _ => rowBit_right a b t, rg_it, rg_it 141 (rowBit b), it_xor]
  rw [Nat.xor_assoc, ← Nat.xor_assoc (it _ 141), Nat.xor_self, Nat.zero_xor]
/-! the long division -/
def D (row : List Nat) : Nat → Bool
  | 0 => true
  | t + 1 => rowBit row t
def U (s : Nat) : Bool := (2 ^ 32 + 141).testBit (32 - s)
def st (row : List Nat) (i t : Nat) : Bool := decide (i ≤ t) && (D row t ^^ (decide (t < i + 32) && (rg 0 (D row) i).testBit (31 - (t - i))))
theorem D_rg (row : List Nat) (n : Nat) : rg 0 (D row) (1 + n) = rg 141 (rowBit row) n := by
  rw [rg_add]
  have e : rg 0 (D row) 1 = 141 := by
    show mx 0 ^^^ 141 = 141
    decide +kernel
  rw [e]
  exact rg_congr fun t _ => by rw [Nat.add_comm]; rfl
theorem st_0 (row : List Nat) (t : Nat) : st row 0 t = D row t := by
  unfold st
  simp [rg]
theorem mx_bit (l s : Nat) (hs : s < 32) : (mx l).testBit s = ((decide (0 < s) && l.testBit (s - 1)) ^^ (l.testBit 31 && (141 : Nat).testBit s)) := by
  unfold mx
  rw [Nat.testBit_xor, Nat.testBit_mod_two_pow]
  congr 1
  · cases s with
    | zero => simp
    | succ s =>
      rw [Nat.testBit_succ, Nat.mul_div_cancel_left _ (by decide)]
      simp; omega
  · cases l.testBit 31 <;> simp
theorem U_is : ∀ s, s < 32 → U (s + 1) = (141 : Nat).testBit (31 - s) := by decide +kernel
theorem st_next (row : List Nat) (i t : Nat) : st row (i + 1) t = if i ≤ t ∧ t < i + 33 then (st row i t ^^ (st row i i && U (t - i))) else st row i t := by
  have hc : st row i i = (D row i ^^ (rg 0 (D row) i).testBit 31) := by
    unfold st; simp
  have hr : ∀ s, s < 32 → (rg 0 (D row) (i + 1)).testBit s = ((decide (0 < s) && (rg 0 (D row) i).testBit (s - 1)) ^^ (st row i i && (141 : Nat).testBit s)) := by
    intro s hs
    rw [rg, Nat.testBit_xor, mx_bit _ _ hs, hc]
    generalize (rg 0 (D row) i).testBit 31 = u
    generalize D row i = v
    generalize (decide (0 < s) && (rg 0 (D row) i).testBit (s - 1)) = q
    cases u <;> cases v <;> simp
  by_cases h : i ≤ t ∧ t < i + 33
  · rw [if_pos h]
    by_cases h0 : t = i
    · subst h0
      have e1 : st row (t + 1) t = false := by unfold st; rw [decide_eq_false (by omega)]; rfl
      rw [e1, Nat.sub_self]
      have e2 : U 0 = true := by decide +kernel
      rw [e2]
      cases st row t t <;> rfl
    · obtain ⟨s, rfl⟩ : ∃ s, t = i + 1 + s := ⟨t - (i + 1), by omega⟩
      have hs : s < 32 := by omega
      have e1 : st row (i + 1) (i + 1 + s) = (D row (i + 1 + s) ^^ (rg 0 (D row) (i + 1)).testBit (31 - s)) := by
        unfold st
        have a1 : decide (i + 1 ≤ i + 1 + s) = true := by simp
        have a2 : decide (i + 1 + s < i + 1 + 32) = true := by simp; omega
        have a3 : i + 1 + s - (i + 1) = s := by omega
        rw [a1, a2, a3]; simp
      have e2 : st row i (i + 1 + s) = (D row (i + 1 + s) ^^ (decide (0 < 31 - s) && (rg 0 (D row) i).testBit (31 - s - 1))) := by
        unfold st
        have a1 : decide (i ≤ i + 1 + s) = true := by simp; omega
        have a2 : decide (i + 1 + s < i + 32) = decide (0 < 31 - s) := by
          by_cases q : s < 31
          · rw [decide_eq_true (by omega), decide_eq_true (by omega)]
          · rw [decide_eq_false (by omega), decide_eq_false (by omega)]
        have a3 : 31 - (i + 1 + s - i) = 31 - s - 1 := by omega
        rw [a1, a2, a3]; simp
      have e3 : i + 1 + s - i = s + 1 := by omega
      rw [e1, e2, e3, hr _ (by omega), U_is s hs, Bool.xor_assoc]
  · rw [if_neg h]
    unfold st
    by_cases h1 : i ≤ t
    · have a1 : decide (i ≤ t) = true := by simp; omega
      have a2 : decide (i + 1 ≤ t) = true := by simp; omega
      have a3 : decide (t < i + 32) = false := by simp; omega
      have a4 : decide (t < i + 1 + 32) = false := by simp; omega
      rw [a1, a2, a3, a4]; rfl
    · have a1 : decide (i ≤ t) = false := by simp; omega
      have a2 : decide (i + 1 ≤ t) = false := by simp; omega
      rw [a1, a2]; rfl
theorem st_same {row : List Nat} {i : Nat} (h : st row i i = false) (t : Nat) : st row (i + 1) t = st row i t := by
  rw [st_next, h]
  split
  · simp
  · rfl
theorem st_end {row : List Nat} {j : Nat} (hj : j < 32) : st row (1 + 8 * row.length) (1 + 8 * row.length + j) = (ck row).testBit (31 - j) := by
  have e : D row (1 + 8 * row.length + j) = false := by
    have : 1 + 8 * row.length + j = (8 * row.length + j) + 1 := by omega
    rw [this]
    exact rowBit_out (by omega)
  unfold st
  rw [D_rg, e]
  have a1 : decide (1 + 8 * row.length ≤ 1 + 8 * row.length + j) = true := by simp
  have a2 : decide (1 + 8 * row.length + j < 1 + 8 * row.length + 32) = true := by simp; omega
  have a3 : 1 + 8 * row.length + j - (1 + 8 * row.length) = j := by omega
  rw [a1, a2, a3]
  simp [ck, ckTo]
theorem fold_step {R j : Nat} (hj : j < 32) : R / 2 ^ (32 - (j + 1)) = R / 2 ^ (32 - j) * 2 + (if R.testBit (31 - j) = true then 1 else 0) := by
  have e : 32 - j = (31 - j) + 1 := by omega
  have e' : 32 - (j + 1) = 31 - j := by omega
  rw [e, e', Nat.pow_succ, ← Nat.div_div_eq_div_mul, Nat.testBit_eq_decide_div_mod_eq]
  simp only [decide_eq_true_eq]
  split <;> omega
/-! bits turned -/
def tog : List Nat → Nat → Bool
  | [], _ => false
  | p :: ps, t => decide (t = p) ^^ tog ps t
theorem tog_app (a b : List Nat) (t : Nat) : tog (a ++ b) t = (tog a t ^^ tog b t) := by
  induction a with
  | nil => simp [tog]
  | cons p a ih => rw [List.cons_append, tog, tog, ih, Bool.xor_assoc]
theorem tog_not {ps : List Nat} {t : Nat} (h : ∀ p ∈ ps, t ≠ p) : tog ps t = false := by
  induction ps with
  | nil => rfl
  | cons p ps ih =>
    rw [tog, ih fun q hq => h q (List.mem_cons_of_mem _ hq), decide_eq_false (h p (List.mem_cons_self ..))]
    rfl
theorem flip_ok : ∀ x, x < 256 → ∀ q, q < 8 → x + 2 ^ (7 - q) - 2 * 2 ^ (7 - q) * (x / 2 ^ (7 - q) % 2) = x ^^^ 2 ^ (7 - q) ∧ 2 * 2 ^ (7 - q) * (x / 2 ^ (7 - q) % 2) ≤ x + 2 ^ (7 - q) ∧ x ^^^ 2 ^ (7 - q) < 256 := by decide +kernel
theorem rowBit_set {row : List Nat} {p x : Nat} (hp : row[p / 8]? = some x) (t : Nat) : rowBit (row.set (p / 8) (x ^^^ 2 ^ (7 - p % 8))) t = (rowBit row t ^^ decide (t = p)) := by
  have hl : p / 8 < row.length := (List.getElem?_eq_some_iff.mp hp).1
  unfold rowBit
  rw [List.getD_eq_getElem?_getD, List.getD_eq_getElem?_getD, List.getElem?_set]
  by_cases h : p / 8 = t / 8
  · rw [if_pos h, if_pos hl, ← h, hp]
    show bt (x ^^^ 2 ^ (7 - p % 8)) (t % 8) = (bt x (t % 8) ^^ decide (t = p))
    unfold bt
    rw [Nat.testBit_xor, Nat.testBit_two_pow]
    congr 1
    by_cases e : t = p
    · rw [e]; simp
    · rw [decide_eq_false e, decide_eq_false (by omega)]
  · rw [if_neg h, decide_eq_false (by omega)]
    simp
theorem ck_ne {row row' : List Nat} {ps : List Nat} {p : Nat} (hl : row'.length = row.length) (hb : ∀ t, rowBit row' t = (rowBit row t ^^ tog (p :: ps) t)) (hp : p < 8 * row.length) (hq : ∀ q ∈ ps, p < q ∧ q < p + 32) : ck row' ≠ ck row := by
  intro e
  have h := rg_burst (fun t => tog (p :: ps) t) p (fun t ht => tog_not fun q hm => by
      rcases List.mem_cons.mp hm with rfl | hm
      · omega
      · have := hq q hm; omega)
    (by show (decide (p = p) ^^ tog ps p) = true
        rw [tog_not fun q hm => by have := hq q hm; omega]; simp)
    (fun t ht => tog_not fun q hm => by
      rcases List.mem_cons.mp hm with rfl | hm
      · omega
      · have := hq q hm; omega) (8 * row.length) hp
  apply h
  have e2 : rg 0 (fun t => tog (p :: ps) t) (8 * row.length) = ck row' ^^^ ck row := by
    unfold ck ckTo
    rw [hl, ← rg_xor, Nat.xor_self]
    refine rg_congr fun t _ => ?_
    rw [hb, Bool.xor_comm (rowBit row t), Bool.xor_assoc, Bool.xor_self, Bool.xor_false]
  rw [e2, e, Nat.xor_self]
end Crc

set_option Elab.async false
set_option linter.all false
set_option maxRecDepth 100000
set_option maxHeartbeats 2000000
namespace Wq
open PySem PySem.Spec PyProof.Rows L2
open Crc (rg chk rowBit ckTo ck pm it mx tog D U st)
abbrev nI (n : Nat) : V := .int (n : Int)
abbrev sCheck : Stmt := top 5
abbrev sJoined : Stmt := top 6
abbrev sPower : Stmt := top 7
abbrev sProduct : Stmt := top 8
structure TxtP (K : PySem.W.Frag) (mg : Str → Option Value) : Prop where
  dv : ∃ t, mg "DIVISOR" = some (.int 141 t)
  lb : ∃ t, mg "LOW_BITS" = some (.int 16777215 t)
  tb : ∃ t, mg "TOP_BIT" = some (.int 2147483648 t)
  ab : ∃ t, mg "ALL_BITS" = some (.int 4294967295 t)
def spCheckOf (K : PySem.W.Frag) : Sp := fun vs H Q _ => ∃ (a : Addr) (ns : List Nat), vs = [.ref a] ∧ SqT K H a (ns.map nI) ∧ (∀ n ∈ ns, n < 256) ∧ Q (nI (ck ns)) H
def spProduct : Sp := fun vs H Q _ => ∃ a b : Nat, vs = [nI a, nI b] ∧ a < 2 ^ 32 ∧ b < 2 ^ 32 ∧ Q (nI (pm 32 a b)) H
def spPower : Sp := fun vs H Q _ => ∃ n : Nat, vs = [nI n] ∧ Q (nI (it (8 * n) 1)) H
def spJoined : Sp := fun vs H Q _ => ∃ a b n : Nat, vs = [nI a, nI b, nI n] ∧ a < 2 ^ 32 ∧ b < 2 ^ 32 ∧ Q (nI (pm 32 (a ^^^ 141) (it (8 * n) 1) ^^^ b)) H
theorem scCheck : FnScope ["row", "left", "byte", "top"] ["row"] (defScope sCheck) := ⟨rfl, rfl, rfl, by decide +kernel, rfl, by decide +kernel, by decide +kernel⟩
theorem scJoined : FnScope ["one", "two", "many"] ["one", "two", "many"] (defScope sJoined) := ⟨rfl, rfl, rfl, by decide +kernel, rfl, by decide +kernel, by decide +kernel⟩
theorem scPower : FnScope ["many", "result", "factor"] ["many"] (defScope sPower) := ⟨rfl, rfl, rfl, by decide +kernel, rfl, by decide +kernel, by decide +kernel⟩
theorem scProduct : FnScope ["one", "two", "result"] ["one", "two"] (defScope sProduct) := ⟨rfl, rfl, rfl, by decide +kernel, rfl, by decide +kernel, by decide +kernel⟩
/-! the operations on numbers from 0 on -/
theorem xorN (a b : Nat) : Builtin.bitXor (a : Int) (b : Int) = ((a ^^^ b : Nat) : Int) := by
  rw [Bits.bitXor_pp (by omega) (by omega), Int.toNat_natCast, Int.toNat_natCast]
theorem andN (a b : Nat) : Builtin.bitAnd (a : Int) (b : Int) = ((a &&& b : Nat) : Int) := by
  rw [bitAnd_pp (by omega) (by omega), Int.toNat_natCast, Int.toNat_natCast]
theorem shlN (a k : Nat) : (a : Int) * 2 ^ k = ((a <<< k : Nat) : Int) := by
  rw [Nat.shiftLeft_eq, Int.natCast_mul, Int.natCast_pow]
  rfl
theorem shrN (a k : Nat) : (a : Int) / 2 ^ k = ((a >>> k : Nat) : Int) := by
  rw [Nat.shiftRight_eq_div_pow, Int.natCast_ediv, Int.natCast_pow]
  rfl
section
variable {P : Program} {w : World} {K : PySem.W.Frag} {mg : Str → Option Value} {base : Heap}
theorem pgi {X : Cx} {x : Str} {n : Int} {t : Tok} {pos : Pos} (hm : X.mg x = some (.int n t)) (hg : Gl X x := by rfl) (hd : (x == ("__debug__" : Str)) = false := by decide) : PE X (.Name x pos) (tC (.int n)) := pe_glob hg hm ⟨_, rfl⟩ hd
def rNN (C : Nat → Nat → Prop) (g : Nat → Nat → Nat) : R2 := fun x y H Q => ∃ n m : Nat, x = nI n ∧ y = nI m ∧ C n m ∧ Q (nI (g n m)) H
def cTt (_ _ : Nat) : Prop := True
def cSh (n k : Nat) : Prop := n < 2 ^ 64 ∧ k ≤ 1000
theorem nn_of {X : Cx} {op : Value → Value → Sem Value} {C : Nat → Nat → Prop} {g : Nat → Nat → Nat} {D : Int → Int → Prop} {f : Int → Int → V} (ho : OpR X op (rI D f)) (hD : ∀ n m : Nat, C n m → D n m) (hf : ∀ n m : Nat, C n m → f n m = nI (g n m)) : OpR X op (rNN C g) := by
  intro pins s σ H x y v u Q I rx ry h
  obtain ⟨n, m, rfl, rfl, c, q⟩ := h
  exact ho pins s σ H _ _ v u Q I rx ry ⟨_, _, rfl, rfl, hD n m c, by rw [hf n m c]; exact q⟩
theorem nn_of0 {X : Cx} {op : Value → Value → Sem Value} {g : Nat → Nat → Nat} {f : Int → Int → V} (ho : OpR X op (rI0 f)) (hf : ∀ n m : Nat, f n m = nI (g n m)) : OpR X op (rNN cTt g) := by
  intro pins s σ H x y v u Q I rx ry h
  obtain ⟨n, m, rfl, rfl, _, q⟩ := h
  exact ho pins s σ H _ _ v u Q I rx ry ⟨_, _, rfl, rfl, by rw [hf n m]; exact q⟩
section
variable {X : Cx}
theorem nn_xor : OpR X (binaryOp .BitXor) (rNN cTt fun n m => n ^^^ m) := nn_of0 op_xor fun n m => congrArg V.int (xorN n m)
theorem nn_and : OpR X (binaryOp .BitAnd) (rNN cTt fun n m => n &&& m) := nn_of0 op_and fun n m => congrArg V.int (andN n m)
theorem nn_shl : OpR X (binaryOp .LShift) (rNN cSh fun n m => n <<< m) := nn_of op_shl (fun n m c => ⟨by omega, by have := c.2; omega, by have := c.1; omega⟩) fun n m _ => congrArg V.int (by rw [Int.toNat_natCast]; exact shlN n m)
theorem nn_shr : OpR X (binaryOp .RShift) (rNN cTt fun n m => n >>> m) := nn_of op_shr (fun n m _ => by omega) fun n m _ => congrArg V.int (by rw [Int.toNat_natCast]; exact shrN n m)
theorem ni_xor : PIp X .BitXor (rNN cTt fun n m => n ^^^ m) := nn_of0 iop_xor fun n m => congrArg V.int (xorN n m)
theorem ni_shl : PIp X .LShift (rNN cSh fun n m => n <<< m) := nn_of iop_shl (fun n m c => ⟨by omega, by have := c.2; omega, by have := c.1; omega⟩) fun n m _ => congrArg V.int (by rw [Int.toNat_natCast]; exact shlN n m)
theorem ni_shr : PIp X .RShift (rNN cTt fun n m => n >>> m) := nn_of iop_shr (fun n m _ => by omega) fun n m _ => congrArg V.int (by rw [Int.toNat_natCast]; exact shrN n m)
end
theorem and_pow (x k : Nat) : x &&& 2 ^ k = if x.testBit k = true then 2 ^ k else 0 := by
  apply Nat.eq_of_testBit_eq
  intro i
  rw [Nat.testBit_and, Nat.testBit_two_pow]
  by_cases h : k = i
  · subst h
    cases x.testBit k <;> simp
  · rw [decide_eq_false h, Bool.and_false]
    split
    · rw [Nat.testBit_two_pow, decide_eq_false h]
    · simp
theorem nats_at {ns : List Nat} {i : Nat} {y : V} (hi : (ns.map nI)[i]? = some y) : ∃ z, ns[i]? = some z ∧ y = nI z := by
  rw [List.getElem?_map] at hi
  cases e : ns[i]? with
  | none =>
    rw [e] at hi
    cases hi
  | some z =>
    rw [e] at hi
    exact ⟨z, rfl, (Option.some.inj hi).symm⟩
theorem ok_check (Df : DefAt K mg "check_of" sCheck) (T : TxtP K mg) : Cl P w K mg base 1 "check_of" (spCheckOf K) := by
  refine cl_of Df scCheck (fun vs H Q E h => ?_) (fun _ _ _ _ _ _ us hl => match us, hl with | [_], _ => rfl) (fun f cdv A outer s H vs Q E hr h => ?_)
  · obtain ⟨a, ns, rfl, _⟩ := h
    rfl
  · obtain ⟨a, ns, rfl, hS, hb, k⟩ := h
    obtain ⟨t1, dv⟩ := T.dv
    obtain ⟨t2, lb⟩ := T.lb
    refine ⟨_, pss_cons (ps_set (i := 1) scCheck.nd rfl (Or.inl rfl) (pgi (by exact dv)))
      (pss_cons (ps_for PassesOwn.never rfl (pi_tup (pv 0)) (pg_name (i := 2) scCheck.nd rfl (Or.inl rfl))
        (pss_cons (ps_set (i := 3) scCheck.nd rfl (Or.inl rfl) (pe_op nn_xor (pe_op nn_shr (pv 1) pe_int) (pv 2)))
        (pss_one (ps_set (i := 1) scCheck.nd rfl (Or.inl rfl) (pe_op nn_xor (pe_op nn_xor (pe_op nn_xor (pe_op nn_xor (pe_op nn_shl (pe_op nn_and (pv 1) (pgi (by exact lb))) pe_int) (pv 3)) (pe_op nn_shl (pv 3) pe_int)) (pe_op nn_shl (pv 3) pe_int)) (pe_op nn_shl (pv 3) pe_int))))))
      (pss_one (ps_ret (pv 1)))), ?_⟩
    refine ⟨_, rfl, a, rfl, ⟨_, hS⟩, for_tup (K := K) (a := a) (xs := ns.map nI) (fun i σ H' => ∃ (v u : Option V), σ = [some (.ref a), some (nI (ckTo ns i)), v, u] ∧ H' = H)
      ⟨none, none, rfl, rfl⟩ (fun i σ H' _ ⟨_, _, _, e⟩ => by rw [e]; exact hS) ?_ ?_⟩
    · rintro i y σ H' hi ⟨v, u, rfl, rfl⟩
      obtain ⟨x, hx, rfl⟩ := nats_at hi
      have hx8 : x < 256 := hb x (List.mem_of_getElem? hx)
      have hl := Crc.ckTo_lt ns i
      have e := Crc.ckTo_step hx hx8
      generalize hL : ckTo ns i = l at *
      have htop : Crc.top l x < 256 := by
        unfold Crc.top
        refine Nat.xor_lt_two_pow (n := 8) ?_ hx8
        rw [Nat.shiftRight_eq_div_pow]
        omega
      refine ⟨_, rfl, l, 24, rfl, rfl, trivial, _, rfl, _, x, rfl, rfl, trivial, ?_⟩
      have et : Crc.top l x < 2 ^ 64 := by omega
      have ea : l &&& 16777215 < 2 ^ 64 := by
        have e : (16777215 : Nat) = 2 ^ 24 - 1 := rfl
        rw [e, Nat.and_two_pow_sub_one_eq_mod]
        omega
      refine ⟨_, rfl, l, 16777215, rfl, rfl, trivial, _, 8, rfl, rfl, ⟨ea, by decide⟩, _, rfl, _, Crc.top l x, rfl, rfl, trivial, _, rfl, Crc.top l x, 2, rfl, rfl, ⟨et, by decide⟩, _, _, rfl, rfl, trivial, _, rfl, Crc.top l x, 3, rfl, rfl, ⟨et, by decide⟩, _, _, rfl, rfl, trivial, _, rfl, Crc.top l x, 7, rfl, rfl, ⟨et, by decide⟩, _, _, rfl, rfl, trivial, ?_⟩
      refine ⟨some (nI x), some (nI (Crc.top l x)), ?_, rfl⟩
      have eA : l &&& 16777215 = l % 2 ^ 24 := by
        have e : (16777215 : Nat) = 2 ^ 24 - 1 := rfl
        rw [e, Nat.and_two_pow_sub_one_eq_mod]
      rw [e]
      unfold chk
      rw [← eA]
      rfl
    · rintro σ H' ⟨v, u, rfl, rfl⟩
      refine ⟨_, rfl, ?_⟩
      rw [List.length_map]
      exact k
theorem ok_product (Df : DefAt K mg "product_of" sProduct) (T : TxtP K mg) : Cl P w K mg base 1 "product_of" spProduct := by
  refine cl_of Df scProduct (fun vs H Q E h => ?_) (fun _ _ _ _ _ _ us hl => match us, hl with | [_, _], _ => rfl) (fun f cdv A outer s H vs Q E hr h => ?_)
  · obtain ⟨a, b, rfl, _⟩ := h
    rfl
  · obtain ⟨a, b, rfl, ha, hb, k⟩ := h
    obtain ⟨t1, dv⟩ := T.dv
    obtain ⟨t2, tb⟩ := T.tb
    obtain ⟨t3, ab⟩ := T.ab
    refine ⟨_, pss_cons (ps_set (i := 2) scProduct.nd rfl (Or.inl rfl) pe_int)
      (pss_cons (ps_while PassesOwn.never (pt_cmpR op_gt (pv 1) pe_int (nomark _))
        (C8.pss_cut (ps_if (pt_cmpR op_eq (pe_op nn_and (pv 1) pe_int) pe_int (nomark _)) (pss_one (ps_aug (i := 2) scProduct.nd rfl (Or.inl rfl) (pv 0) ni_xor)) pss_nil)
        (pss_cons (ps_aug (i := 1) scProduct.nd rfl (Or.inl rfl) pe_int ni_shr)
        (pss_one (ps_if (pt_cmpR op_eq (pe_op nn_and (pv 0) (pgi (by exact tb))) pe_int (nomark _))
          (pss_one (ps_aug (i := 0) scProduct.nd rfl (Or.inl rfl) pe_int ni_shl))
          (pss_one (ps_set (i := 0) scProduct.nd rfl (Or.inl rfl) (pe_op nn_xor (pe_op nn_and (pe_op nn_shl (pv 0) pe_int) (pgi (by exact ab))) (pgi (by exact dv))))))))))
      (pss_one (ps_ret (pv 2)))), ?_⟩
    refine while_by (fun σ H' => H' = H ∧ ∃ (j x y r : Nat), σ = [some (nI x), some (nI y), some (nI r)] ∧ x < 2 ^ 32 ∧ y < 2 ^ j ∧ j ≤ 32 ∧ pm 32 a b = r ^^^ pm j x y) (fun σ H' => match σ with | [_, some (.int y), _] => y.toNat | _ => 0)
      ⟨rfl, 32, a, b, 0, rfl, ha, hb, Nat.le_refl _, (Nat.zero_xor _).symm⟩ ?_ ?_
    · rintro σ H' ⟨rfl, j, x, y, r, rfl, hx, hy, hj, e⟩
      refine ⟨_, rfl, _, _, rfl, rfl, _, rfl, ?_⟩
      refine ite2 (fun hc => ?_) (fun hc => ?_)
      · have hc := of_decide_eq_true hc
        cases j with
        | zero => omega
        | succ j =>
          have hx31 : x <<< 1 = 2 * x := by rw [Nat.shiftLeft_eq]; omega
          have hy2 : y / 2 < 2 ^ j := by rw [Nat.pow_succ] at hy; omega
          have hodd : y &&& 1 = y % 2 := Nat.and_one_is_mod y
          refine ⟨fun σ H'' => H'' = H' ∧ σ = [some (nI x), some (nI y), some (nI (r ^^^ (if y % 2 = 1 then x else 0)))], ?_, ?_⟩
          · refine ⟨_, rfl, y, 1, rfl, rfl, trivial, rfl, _, rfl, ?_⟩
            refine ite2 (fun h1 => ?_) (fun h1 => ?_)
            · have h1 : y % 2 = 1 := by
                have := of_decide_eq_true h1
                rw [← hodd]
                exact Int.ofNat_inj.mp (V.int.inj this)
              refine ⟨_, rfl, _, rfl, r, x, rfl, rfl, trivial, rfl, ?_⟩
              rw [if_pos h1]
              rfl
            · have h1 : ¬ y % 2 = 1 := fun z => h1 (decide_eq_true (by show nI (y &&& 1) = V.int 1; rw [hodd, z]; rfl))
              refine ⟨rfl, ?_⟩
              rw [if_neg h1, Nat.xor_zero]
          · rintro σ H2 ⟨rfl, rfl⟩
            refine ⟨_, rfl, y, 1, rfl, rfl, trivial, ?_⟩
            have em : pm 32 a b = (r ^^^ (if y % 2 = 1 then x else 0)) ^^^ pm j (mx x) (y / 2) := by
              rw [e, pm, Nat.xor_assoc]
            have fin : ∀ z, z = mx x → (fun σ' H'' => (H'' = H2 ∧ ∃ (j x y r : Nat), σ' = [some (nI x), some (nI y), some (nI r)] ∧ x < 2 ^ 32 ∧ y < 2 ^ j ∧ j ≤ 32 ∧ pm 32 a b = r ^^^ pm j x y) ∧ (match σ' with | [_, some (V.int y), _] => y.toNat | _ => 0) < y) [some (nI z), some (nI (y >>> 1)), some (nI (r ^^^ (if y % 2 = 1 then x else 0)))] H2 := by
              intro z hz
              have ey : y >>> 1 = y / 2 := by rw [Nat.shiftRight_eq_div_pow]
              refine ⟨⟨rfl, j, z, y / 2, _, by rw [ey], by rw [hz]; exact Crc.mx_lt _, hy2, by omega, by rw [hz]; exact em⟩, ?_⟩
              show ((y >>> 1 : Nat) : Int).toNat < y
              rw [ey]
              omega
            have eb : x &&& 2147483648 = if x.testBit 31 = true then 2147483648 else 0 := by
              have e2 : (2147483648 : Nat) = 2 ^ 31 := rfl
              rw [e2]
              exact and_pow x 31
            have hm : mx x = (x <<< 1 &&& 4294967295) ^^^ (if x.testBit 31 = true then 141 else 0) := by
              have e2 : (4294967295 : Nat) = 2 ^ 32 - 1 := rfl
              rw [e2, Nat.and_two_pow_sub_one_eq_mod, hx31]
              rfl
            refine ⟨_, rfl, x, 2147483648, rfl, rfl, trivial, rfl, _, rfl, ?_⟩
            refine ite2 (fun h1 => ?_) (fun h1 => ?_)
            · refine ⟨_, rfl, x, 1, rfl, rfl, ⟨by omega, by decide⟩, ?_⟩
              refine fin _ ?_
              have h2 : x.testBit 31 = false := by
                cases hb : x.testBit 31 with
                | false => rfl
                | true =>
                  rw [hb, if_pos rfl] at eb
                  have this : x &&& 2147483648 = 0 := Int.ofNat_inj.mp (V.int.inj (of_decide_eq_true h1))
                  rw [eb] at this
                  cases this
              have h3 : x < 2 ^ 31 := by
                rw [Nat.testBit_eq_decide_div_mod_eq] at h2
                have := of_decide_eq_false h2
                omega
              rw [Crc.mx_small h3, ← hx31]
            · refine ⟨_, rfl, x, 1, rfl, rfl, ⟨by omega, by decide⟩, _, 4294967295, rfl, rfl, trivial, _, 141, rfl, rfl, trivial, ?_⟩
              refine fin _ ?_
              have h2 : x.testBit 31 = true := by
                cases hb : x.testBit 31 with
                | true => rfl
                | false =>
                  rw [hb] at eb
                  exact absurd (decide_eq_true (by show nI (x &&& 2147483648) = V.int 0; rw [eb]; rfl)) h1
              rw [hm, h2]
              rfl
      · have hy0 : y = 0 := by
          have : ¬ ((0 : Int) < (y : Int)) := fun z => hc (decide_eq_true z)
          omega
        refine ⟨_, rfl, ?_⟩
        rw [hy0, Crc.pm_0, Nat.xor_zero] at e
        rw [← e]
        exact k
    · intro σ H' Q' Q'' hq h
      obtain ⟨v, h1, h⟩ := h
      obtain ⟨i, j, e1, e2, k', e3, h⟩ := h
      exact ⟨v, h1, i, j, e1, e2, k', e3, hq _ _ h⟩
theorem pm_its (u v : Nat) : pm 32 (it u 1) (it v 1) = it (v + u) 1 := by
  rw [Crc.pm_pow v (Crc.it_lt u (by decide)), ← Crc.it_add]
theorem ok_power (Df : DefAt K mg "power_of_byte" sPower) (CP : Cl P w K mg base 1 "product_of" spProduct) : Cl P w K mg base 2 "power_of_byte" spPower := by
  refine cl_of Df scPower (fun vs H Q E h => ?_) (fun _ _ _ _ _ _ us hl => match us, hl with | [_], _ => rfl) (fun f cdv A outer s H vs Q E hr h => ?_)
  · obtain ⟨a, rfl, _⟩ := h
    rfl
  · obtain ⟨n, rfl, k⟩ := h
    refine ⟨_, pss_cons (ps_set (i := 1) scPower.nd rfl (Or.inl rfl) pe_int)
      (pss_cons (ps_set (i := 2) scPower.nd rfl (Or.inl rfl) pe_int)
      (pss_cons (ps_while PassesOwn.never (pt_cmpR op_gt (pv 0) pe_int (nomark _))
        (C8.pss_cut (ps_if (pt_cmpR op_eq (pe_op nn_and (pv 0) pe_int) pe_int (nomark _)) (pss_one (ps_set (i := 1) scPower.nd rfl (Or.inl rfl) (pe_cl CP hr (Nat.le_refl _) rfl (pa_cons (pv 1) (pa_cons (pv 2) pa_nil))))) pss_nil)
        (pss_cons (ps_set (i := 2) scPower.nd rfl (Or.inl rfl) (pe_cl CP hr (Nat.le_refl _) rfl (pa_cons (pv 2) (pa_cons (pv 2) pa_nil))))
        (pss_one (ps_aug (i := 0) scPower.nd rfl (Or.inl rfl) pe_int ni_shr)))))
      (pss_one (ps_ret (pv 1))))), ?_⟩
    refine while_by (fun σ H' => H' = H ∧ ∃ (y u v : Nat), σ = [some (nI y), some (nI (it u 1)), some (nI (it v 1))] ∧ u + v * y = 8 * n) (fun σ H' => match σ with | [some (.int y), _, _] => y.toNat | _ => 0)
      ⟨rfl, n, 0, 8, rfl, by omega⟩ ?_ ?_
    · rintro σ H' ⟨rfl, y, u, v, rfl, e⟩
      refine ⟨_, rfl, _, _, rfl, rfl, _, rfl, ?_⟩
      have l1 : ∀ n, it n 1 < 2 ^ 32 := fun n => Crc.it_lt n (by decide)
      refine ite2 (fun hc => ?_) (fun hc => ?_)
      · have hc := of_decide_eq_true hc
        have hodd : y &&& 1 = y % 2 := Nat.and_one_is_mod y
        refine ⟨fun σ H'' => H'' = H' ∧ σ = [some (nI y), some (nI (it (u + v * (y % 2)) 1)), some (nI (it v 1))], ?_, ?_⟩
        · refine ⟨_, rfl, y, 1, rfl, rfl, trivial, rfl, _, rfl, ?_⟩
          refine ite2 (fun h1 => ?_) (fun h1 => ?_)
          · have h1 : y % 2 = 1 := by
              have := of_decide_eq_true h1
              rw [← hodd]
              exact Int.ofNat_inj.mp (V.int.inj this)
            refine ⟨_, rfl, _, rfl, _, _, rfl, l1 _, l1 _, ?_⟩
            refine ⟨rfl, ?_⟩
            rw [pm_its, h1, Nat.mul_one, Nat.add_comm v u]
            rfl
          · have h1 : ¬ y % 2 = 1 := fun z => h1 (decide_eq_true (by show nI (y &&& 1) = V.int 1; rw [hodd, z]; rfl))
            have h0 : y % 2 = 0 := by omega
            refine ⟨rfl, ?_⟩
            rw [h0, Nat.mul_zero, Nat.add_zero]
        · rintro σ H2 ⟨rfl, rfl⟩
          refine ⟨_, rfl, _, rfl, _, _, rfl, l1 _, l1 _, ?_⟩
          refine ⟨_, rfl, y, 1, rfl, rfl, trivial, ?_⟩
          have ey : y >>> 1 = y / 2 := by rw [Nat.shiftRight_eq_div_pow]
          refine ⟨⟨rfl, y / 2, u + v * (y % 2), v + v, ?_, ?_⟩, ?_⟩
          · rw [pm_its]
            show [some (nI (y >>> 1)), _, _] = _
            rw [ey]
          · have h2 : y = 2 * (y / 2) + y % 2 := by omega
            have h3 : v * y = v * (2 * (y / 2)) + v * (y % 2) := by rw [← Nat.mul_add, ← h2]
            rw [Nat.add_mul]
            have h4 : v * (2 * (y / 2)) = v * (y / 2) + v * (y / 2) := by rw [Nat.two_mul, Nat.mul_add]
            omega
          · show ((y >>> 1 : Nat) : Int).toNat < y
            rw [ey]
            omega
      · have hy0 : y = 0 := by
          have : ¬ ((0 : Int) < (y : Int)) := fun z => hc (decide_eq_true z)
          omega
        refine ⟨_, rfl, ?_⟩
        rw [hy0, Nat.mul_zero, Nat.add_zero] at e
        rw [e]
        exact k
    · intro σ H' Q' Q'' hq h
      obtain ⟨v, h1, h⟩ := h
      obtain ⟨i, j, e1, e2, k', e3, h⟩ := h
      exact ⟨v, h1, i, j, e1, e2, k', e3, hq _ _ h⟩
theorem ok_joined (Df : DefAt K mg "joined_check" sJoined) (T : TxtP K mg) (CP : Cl P w K mg base 1 "product_of" spProduct) (CW : Cl P w K mg base 2 "power_of_byte" spPower) : Cl P w K mg base 3 "joined_check" spJoined := by
  refine cl_of Df scJoined (fun vs H Q E h => ?_) (fun _ _ _ _ _ _ us hl => match us, hl with | [_, _, _], _ => rfl) (fun f cdv A outer s H vs Q E hr h => ?_)
  · obtain ⟨a, b, n, rfl, _⟩ := h
    rfl
  · obtain ⟨a, b, n, rfl, ha, hb, k⟩ := h
    obtain ⟨t1, dv⟩ := T.dv
    refine ⟨_, pss_one (ps_ret (pe_op nn_xor (pe_cl CP hr (by decide) rfl (pa_cons (pe_op nn_xor (pv 0) (pgi (by exact dv))) (pa_cons (pe_cl CW hr (Nat.le_refl _) rfl (pa_cons (pv 2) pa_nil)) pa_nil))) (pv 1))), ?_⟩
    refine ⟨_, rfl, a, 141, rfl, rfl, trivial, _, rfl, n, rfl, ?_⟩
    refine ⟨_, _, rfl, Nat.xor_lt_two_pow ha (by decide), Crc.it_lt _ (by decide), _, rfl, _, b, rfl, rfl, trivial, ?_⟩
    exact k
end
end Wq

set_option Elab.async false
set_option linter.all false
set_option maxRecDepth 100000
set_option maxHeartbeats 2000000
namespace Wq
open PySem PySem.Spec PyProof.Rows L2
open Crc (rg chk rowBit ckTo ck pm it mx tog D U st bt)
abbrev sBits : Stmt := top 13
abbrev sLCheck : Stmt := top 14
abbrev sTurned : Stmt := top 15
abbrev b2 (b : Bool) : V := .int (if b = true then 1 else 0)
/-- the list of n things that f tells -/
def tab (n : Nat) (f : Nat → V) : List V := (List.range n).map f
theorem tab_len (n : Nat) (f : Nat → V) : (tab n f).length = n := by simp [tab]
theorem tab_at {n i : Nat} {f : Nat → V} (h : i < n) : (tab n f)[i]? = some (f i) := by simp [tab, h]
theorem tab_ext {n : Nat} {f g : Nat → V} (h : ∀ t, t < n → f t = g t) : tab n f = tab n g := by
  apply List.map_congr_left
  intro t ht
  exact h t (List.mem_range.mp ht)
theorem tab_set (n i : Nat) (f : Nat → V) (v : V) : (tab n f).set i v = tab n (fun t => if t = i then v else f t) := by
  apply List.ext_getElem?
  intro j
  rw [List.getElem?_set]
  by_cases hj : j < n
  · by_cases h : i = j
    · subst h
      rw [if_pos rfl, tab_len, if_pos hj, tab_at hj, if_pos rfl]
    · rw [if_neg h, tab_at hj, tab_at hj, if_neg (fun z => h z.symm)]
  · have e : ∀ g, (tab n g)[j]? = none := fun g => List.getElem?_eq_none (by rw [tab_len]; omega)
    rw [e, e]
    by_cases h : i = j
    · rw [if_pos h, tab_len, if_neg (by omega)]
    · rw [if_neg h]
theorem tab_snoc (n : Nat) (f : Nat → V) : tab n f ++ [f n] = tab (n + 1) f := by
  simp [tab, List.range_succ]
theorem tab_app (n m : Nat) (f g : Nat → V) : tab n f ++ tab m g = tab (n + m) (fun t => if t < n then f t else g (t - n)) := by
  apply List.ext_getElem?
  intro j
  by_cases h : j < n
  · rw [List.getElem?_append_left (by rw [tab_len]; exact h), tab_at h, tab_at (by omega), if_pos h]
  · rw [List.getElem?_append_right (by rw [tab_len]; omega), tab_len]
    by_cases h2 : j < n + m
    · rw [tab_at (by omega), tab_at h2, if_neg h]
    · rw [List.getElem?_eq_none (by rw [tab_len]; omega), List.getElem?_eq_none (by rw [tab_len]; omega)]
theorem tab_rev (n : Nat) (f : Nat → V) : (tab n f).reverse = tab n (fun t => f (n - 1 - t)) := by
  apply List.ext_getElem?
  intro j
  by_cases h : j < n
  · rw [List.getElem?_reverse (by rw [tab_len]; exact h), tab_len, tab_at (by omega), tab_at h]
  · rw [List.getElem?_eq_none (by simp [tab_len]; omega), List.getElem?_eq_none (by rw [tab_len]; omega)]
def spBits (K : PySem.W.Frag) : Sp := fun vs H Q _ => ∃ (a : Addr) (ns : List Nat), vs = [.ref a] ∧ SqL K H a (ns.map nI) ∧ (∀ n ∈ ns, n < 256) ∧ ns.length ≤ 1000 ∧
  ∀ p H', H p = none → Same H H' → H' p = some (.lst (tab (8 * ns.length) fun t => b2 (rowBit ns t))) → Q (.ref p) H'
def spLCheck (K : PySem.W.Frag) : Sp := fun vs H Q _ => ∃ (a : Addr) (ns : List Nat), vs = [.ref a] ∧ SqL K H a (ns.map nI) ∧ (∀ n ∈ ns, n < 256) ∧ ns.length ≤ 1000 ∧
  ∀ H', Same H H' → Q (nI (ck ns)) H'
def spTurned (K : PySem.W.Frag) : Sp := fun vs H Q _ => ∃ (a b : Addr) (ns ps : List Nat), vs = [.ref a, .ref b] ∧ SqL K H a (ns.map nI) ∧ SqL K H b (ps.map nI) ∧ (∀ n ∈ ns, n < 256) ∧ (∀ p ∈ ps, p < 8 * ns.length) ∧
  ∀ q H' ns', H q = none → Same H H' → H' q = some (.lst (ns'.map nI)) → ns'.length = ns.length → (∀ n ∈ ns', n < 256) → (∀ t, rowBit ns' t = (rowBit ns t ^^ tog ps t)) → Q (.ref q) H'
theorem scBits : FnScope ["_law_row", "_law_found", "_law_byte", "_law_left", "_law_bits_here", "_law_k"] ["_law_row"] (defScope sBits) := ⟨rfl, rfl, rfl, by decide +kernel, rfl, by decide +kernel, by decide +kernel⟩
theorem scLCheck : FnScope ["_law_row", "_law_under", "_law_bits_here", "_law_k", "_law_j", "_law_found", "_law_bit"] ["_law_row"] (defScope sLCheck) := ⟨rfl, rfl, rfl, by decide +kernel, rfl, by decide +kernel, by decide +kernel⟩
theorem scTurned : FnScope ["_law_row", "_law_places", "_law_found", "_law_place", "_law_weight", "_law_byte", "_law_bit"] ["_law_row", "_law_places"] (defScope sTurned) := ⟨rfl, rfl, rfl, by decide +kernel, rfl, by decide +kernel, by decide +kernel⟩
section
variable {P : Program} {w : World} {K : PySem.W.Frag} {mg : Str → Option Value} {base : Heap}
theorem ok_bits (Df : DefAt K mg "_law_bits" sBits) (T : Txt K mg) : Cl P w K mg base 1 "_law_bits" (spBits K) := by
  refine cl_of Df scBits (fun vs H Q E h => ?_) (fun _ _ _ _ _ _ us hl => match us, hl with | [_], _ => rfl) (fun f cdv A outer s H vs Q E hr h => ?_)
  · obtain ⟨a, ns, rfl, _⟩ := h
    rfl
  · obtain ⟨a, ns, rfl, hS, hb, hlen, k⟩ := h
    refine ⟨_, pss_cons (ps_set (i := 1) scBits.nd rfl (Or.inl rfl) (pe_lst pa_nil))
      (pss_cons (ps_for PassesOwn.never rfl (pi_list (pv 0)) (pg_name (i := 2) scBits.nd rfl (Or.inl rfl))
        (pss_cons (ps_par (i := 3) (j := 4) (by rfl) scBits.nd rfl rfl (by decide) rfl rfl (pa_cons (pv 2) (pa_cons (pe_lst pa_nil) pa_nil)) (by rfl))
        (pss_cons (ps_for PassesOwn.never rfl (pi_range1 rfl (by exact T.range) (pa_cons pe_int pa_nil)) (pg_name (i := 5) scBits.nd rfl (Or.inl rfl))
          (pss_cons (ps_expr (pe_bm PySem.F.plainAttrs_list PySem.F.slot_list_append PySem.F.type_list_append mt_append (pv 4) (pa_cons (pe_op op_mod (pe_callTy call_int1 (by rfl) (by exact T.int) PyProof.Rows.boot_int (pa_cons (pv 3) pa_nil)) pe_int) pa_nil)))
          (pss_one (ps_set (i := 3) scBits.nd rfl (Or.inl rfl) (pe_op op_fdiv (pe_callTy call_int1 (by rfl) (by exact T.int) PyProof.Rows.boot_int (pa_cons (pv 3) pa_nil)) pe_int)))))
        (pss_one (ps_set (i := 1) scBits.nd rfl (Or.inl rfl) (pe_op op_cat (pv 1) (pe_revL (pv 4))))))))
      (pss_one (ps_ret (pv 1)))), ?_⟩
    refine ⟨Nat.zero_le _, fun l hl => ?_⟩
    have s0 : Same H (upd H l (.lst [])) := fun b o e => by rw [upd_ne (ne_of_none e hl)]; exact e
    refine ⟨_, rfl, a, rfl, ⟨_, s0.seq hS⟩, for_list (K := K) (a := a) (xs := ns.map nI) (fun i σ H' => ∃ (l : Addr) (u v w x : Option V), σ = [some (.ref a), some (.ref l), u, v, w, x] ∧ H l = none ∧ Same H H' ∧ H' l = some (.lst (tab (8 * i) fun t => b2 (rowBit ns t))))
      ⟨l, _, _, _, _, rfl, hl, s0, upd_same⟩ (fun i σ H' _ ⟨_, _, _, _, _, _, _, s, _⟩ => s.seq hS) ?_ ?_⟩
    · rintro i y σ H' hi ⟨l, u, v, w, x, rfl, nl, sm, hl⟩
      have hil := (List.getElem?_eq_some_iff.mp hi).1
      rw [List.length_map] at hil
      obtain ⟨z, hz, rfl⟩ := nats_at hi
      have hz8 : z < 256 := hb z (List.mem_of_getElem? hz)
      refine ⟨_, rfl, Nat.zero_le _, fun d hd => ⟨_, _, rfl, ?_⟩⟩
      have s1 : Same H' (upd H' d (.lst [])) := fun b o e => by rw [upd_ne (ne_of_none e hd)]; exact e
      refine ⟨8, rfl, by decide, by decide, for_range (n := 8) (fun k σ H2 => ∃ x, σ = [some (.ref a), some (.ref l), some (nI z), some (nI (z >>> k)), some (.ref d), x] ∧ Same H' H2 ∧ H2 d = some (.lst (tab k fun t => b2 (z.testBit t))))
        ⟨_, rfl, s1, upd_same⟩ ?_ ?_⟩
      · rintro k σ H2 hk ⟨x, rfl, s2, hd2⟩
        refine ⟨_, rfl, .inl ⟨rfl, _, .inl (.inl hd2)⟩, _, rfl, .inl ⟨_, rfl, _, _, rfl, rfl, (by show (0 : Int) < 2; decide), d, _, _, rfl, rfl, hd2, ?_, ?_⟩⟩
        · rw [tab_len]
          exact small1000 (by omega)
        refine ⟨_, rfl, .inl ⟨_, rfl, _, _, rfl, rfl, ⟨by decide, by decide⟩, ?_⟩⟩
        refine ⟨some (.int (0 + (k : Int))), ?_, fun b o e => ?_, ?_⟩
        · have e : ((z >>> k : Nat) : Int) / 2 = ((z >>> (k + 1) : Nat) : Int) := by
            rw [Nat.shiftRight_succ, Int.natCast_ediv]
            rfl
          show [_, _, _, some (V.int (((z >>> k : Nat) : Int) / 2)), _, _] = _
          rw [e]
        · rw [upd_ne (ne_of_none e hd)]
          exact s2 b o e
        · rw [upd_same, ← tab_snoc]
          have e : V.int (((z >>> k : Nat) : Int) % 2) = b2 (z.testBit k) := by
            rw [Nat.testBit_eq_decide_div_mod_eq, Nat.shiftRight_eq_div_pow]
            simp only [b2, decide_eq_true_eq]
            congr 1
            split <;> omega
          rw [← e]
      · rintro σ H2 ⟨x, rfl, s2, hd2⟩
        refine ⟨_, rfl, _, rfl, d, _, rfl, .inl (.inl hd2), fun r hr => ?_⟩
        have s3 : Same H2 (upd H2 r (.lst (tab 8 fun t => b2 (z.testBit t)).reverse)) := fun b o e => by rw [upd_ne (ne_of_none e hr)]; exact e
        refine ⟨l, r, _, _, rfl, rfl, s3 _ _ (s2 _ _ hl), upd_same, ?_, fun q hq => ?_⟩
        · rw [tab_len, List.length_reverse, tab_len, sizeLine_eq]
          omega
        have s4 : Same H (upd (upd H2 r (.lst (tab 8 fun t => b2 (z.testBit t)).reverse)) q (.lst (tab (8 * i) (fun t => b2 (rowBit ns t)) ++ (tab 8 fun t => b2 (z.testBit t)).reverse))) := fun b o e => by
          have e3 := s3 _ _ (s2 _ _ (sm _ _ e))
          rw [upd_ne (ne_of_none e3 hq)]
          exact e3
        refine ⟨q, _, _, _, _, rfl, (sm.trans (s2.trans s3)).free hq, s4, ?_⟩
        rw [upd_same, tab_rev, tab_app]
        refine congrArg (fun l => some (HO.lst l)) (tab_ext fun t ht => ?_)
        by_cases h : t < 8 * i
        · rw [if_pos h]
        · rw [if_neg h]
          have e := Crc.rowBit_at hz (t := t - 8 * i) (by omega)
          have e2 : 8 * i + (t - 8 * i) = t := by omega
          rw [e2] at e
          rw [e]
          rfl
    · rintro σ H' ⟨l, u, v, w, x, rfl, nl, sm, hl⟩
      rw [List.length_map] at hl
      exact ⟨_, rfl, k l H' nl sm hl⟩
end
end Wq

set_option Elab.async false
set_option linter.all false
set_option maxRecDepth 100000
set_option maxHeartbeats 2000000
namespace Wq
open PySem PySem.Spec PyProof.Rows L2
open Crc (rg chk rowBit ckTo ck pm it mx tog D U st bt)
theorem Same.new {H : Hp} {p : Addr} {o : HO} (h : H p = none) : Same H (upd H p o) := fun b u e => by
  rw [upd_ne (ne_of_none e h)]
  exact e
theorem Same.put {H H' : Hp} {p : Addr} {o : HO} (s : Same H H') (h : H p = none) : Same H (upd H' p o) := fun b u e => by
  rw [upd_ne (ne_of_none e h)]
  exact s _ _ e
theorem atI_tab {n i : Nat} {f : Nat → V} (h : i < n) : atI (tab n f) (0 + (i : Int)) = some (f i) := by
  rw [Int.zero_add]
  exact atI_nat (tab_at h)
theorem ixN_nat {n i : Nat} (h : i < n) : ixN n (i : Int) = some i := by
  unfold ixN
  rw [if_pos (by omega), if_pos (by omega), Int.toNat_natCast]
theorem b2_ne (u v : Bool) : (if (!decide (b2 u = b2 v)) = true then (1 : Int) else 0) = if (u ^^ v) = true then 1 else 0 := by
  cases u <;> cases v <;> decide
theorem scal_b2 (u v : Bool) : scal (b2 u) (b2 v) = true := rfl
def startL (ns : List Nat) : List V := tab (8 * ns.length + 33) fun t => b2 (st ns 0 t)
theorem startL_eq (ns : List Nat) : ([V.int 1] ++ tab (8 * ns.length) fun t => b2 (rowBit ns t)) ++ (List.replicate (Int.toNat 32) [V.int 0]).flatten = startL ns := by
  have e1 : [V.int 1] = tab 1 fun t => b2 (D ns t) := rfl
  have e2 : (List.replicate (Int.toNat 32) [V.int 0]).flatten = tab 32 fun _ => V.int 0 := rfl
  rw [e1, e2, tab_app, tab_app]
  have el : 1 + 8 * ns.length + 32 = 8 * ns.length + 33 := by omega
  rw [el]
  refine tab_ext fun t ht => ?_
  rw [Crc.st_0]
  by_cases h : t < 1 + 8 * ns.length
  · rw [if_pos h]
    by_cases h0 : t < 1
    · rw [if_pos h0]
    · rw [if_neg h0]
      obtain ⟨u, rfl⟩ : ∃ u, t = u + 1 := ⟨t - 1, by omega⟩
      rfl
  · rw [if_neg h]
    obtain ⟨u, rfl⟩ : ∃ u, t = u + 1 := ⟨t - 1, by omega⟩
    show V.int 0 = b2 (rowBit ns u)
    rw [Crc.rowBit_out (by omega)]
    rfl
theorem underL : ([V.int 1] ++ (List.replicate (Int.toNat 24) [V.int 0]).flatten) ++ [V.int 1, V.int 0, V.int 0, V.int 0, V.int 1, V.int 1, V.int 0, V.int 1] = tab 33 fun s => b2 (U s) := by rfl
theorem tab_cut {n : Nat} {f : Nat → V} (h : 32 ≤ n) : cutV (tab n f) (some (-32)) none = tab 32 (fun j => f (n - 32 + j)) := by
  have e1 : HT.sIx (tab n f).length 0 (some (-32)) = n - 32 := by
    unfold HT.sIx
    rw [tab_len]
    show (if (-32 : Int) < 0 then _ else _) = _
    rw [if_pos (by decide)]
    omega
  have e2 : HT.sIx (tab n f).length (tab n f).length none = n := tab_len _ _
  unfold cutV
  rw [e1, e2]
  apply List.ext_getElem?
  intro j
  rw [List.getElem?_take, List.getElem?_drop]
  by_cases hj : j < 32
  · rw [if_pos (by omega), tab_at (by omega), tab_at hj]
  · rw [if_neg (by omega), List.getElem?_eq_none (by rw [tab_len]; omega)]
section
variable {P : Program} {w : World} {K : PySem.W.Frag} {mg : Str → Option Value} {base : Heap}
theorem ok_lcheck (Df : DefAt K mg "_law_check" sLCheck) (T : Txt K mg) (CB : Cl P w K mg base 1 "_law_bits" (spBits K)) : Cl P w K mg base 2 "_law_check" (spLCheck K) := by
  refine cl_of Df scLCheck (fun vs H Q E h => ?_) (fun _ _ _ _ _ _ us hl => match us, hl with | [_], _ => rfl) (fun f cdv A outer s H vs Q E hr h => ?_)
  · obtain ⟨a, ns, rfl, _⟩ := h
    rfl
  · obtain ⟨a, ns, rfl, hS, hb, hlen, k⟩ := h
    refine ⟨_, C8.pss_cut (ps_set (i := 1) scLCheck.nd rfl (Or.inl rfl) (pe_op op_cat (pe_op op_cat (pe_lst (pa_cons pe_int pa_nil)) (pe_op op_rep (pe_lst (pa_cons pe_int pa_nil)) pe_int)) (pe_lst (pa_cons pe_int (pa_cons pe_int (pa_cons pe_int (pa_cons pe_int (pa_cons pe_int (pa_cons pe_int (pa_cons pe_int (pa_cons pe_int pa_nil))))))))))) 
      (C8.pss_cut (ps_set (i := 2) scLCheck.nd rfl (Or.inl rfl) (pe_op op_cat (pe_op op_cat (pe_lst (pa_cons pe_int pa_nil)) (pe_cl CB hr (Nat.le_refl _) rfl (pa_cons (pv 0) pa_nil))) (pe_op op_rep (pe_lst (pa_cons pe_int pa_nil)) pe_int)))
      (C8.pss_cut (ps_for PassesOwn.never rfl (pi_range1 rfl (by exact T.range) (pa_cons (pe_op op_sub (pe_callB call_len_seq (by rfl) (by exact T.len) PySem.boot_len (pa_cons (pv 2) pa_nil)) pe_int) pa_nil)) (pg_name (i := 3) scLCheck.nd rfl (Or.inl rfl))
        (pss_one (ps_if (pt_cmpR op_eq (pe_ix ix_list (pv 2) (pv 3) (fun _ _ => rfl)) pe_int (nomark _))
          (pss_one (ps_for PassesOwn.never rfl (pi_range1 rfl (by exact T.range) (pa_cons pe_int pa_nil)) (pg_name (i := 4) scLCheck.nd rfl (Or.inl rfl))
            (pss_one (ps_asg (pe_callTy call_int1 (by rfl) (by exact T.int) PyProof.Rows.boot_int (pa_cons (pe_cmpR op_ne (pe_ix ix_list (pv 2) (pe_op op_add (pv 3) (pv 4)) (fun _ _ => rfl)) (pe_ix ix_list (pv 1) (pv 4) (fun _ _ => rfl)) (nomark _)) pa_nil)) (pg_sub (pv 2) (pe_op op_add (pv 3) (pv 4)) set_list)))))
          pss_nil)))
      (pss_cons (ps_set (i := 5) scLCheck.nd rfl (Or.inl rfl) pe_int)
      (pss_cons (ps_for PassesOwn.never rfl (pi_list (pe_slice sl_list (pv 2) (po_some (pe_un un_neg pe_int)) po_none)) (pg_name (i := 6) scLCheck.nd rfl (Or.inl rfl))
        (pss_one (ps_set (i := 5) scLCheck.nd rfl (Or.inl rfl) (pe_op op_add (pe_op op_mul (pv 5) pe_int) (pv 6)))))
      (pss_one (ps_ret (pv 5))))))), ?_⟩
    have s1000 : ∀ n : Nat, n ≤ 10000 → n ≤ sizeLine := fun n h => by rw [sizeLine_eq]; omega
    -- under
    refine ⟨fun σ G => ∃ p : Addr, σ = [some (.ref a), some (.ref p), none, none, none, none, none] ∧ H p = none ∧ Same H G ∧ G p = some (.lst (tab 33 fun s => b2 (U s))), ?_, ?_⟩
    · refine ⟨s1000 _ (by show 1 ≤ 10000; decide), fun p1 h1 => ⟨s1000 _ (by show 1 ≤ 10000; decide), fun p2 h2 => ⟨p2, 24, _, rfl, rfl, upd_same, by decide, by decide, s1000 _ (by show 1 * 24 ≤ 10000; decide), fun p3 h3 => ?_⟩⟩⟩
      have a1 : Same H (upd H p1 (.lst [V.int 1])) := Same.new h1
      have a2 := Same.new (o := .lst [V.int 0]) h2
      have a3 := Same.new (o := .lst (List.replicate (Int.toNat 24) [V.int 0]).flatten) h3
      refine ⟨p1, p3, _, _, rfl, rfl, a3 _ _ (a2 _ _ upd_same), upd_same, s1000 _ (by show 1 + 24 ≤ 10000; decide), fun p4 h4 => ⟨s1000 _ (by show 8 ≤ 10000; decide), fun p5 h5 => ?_⟩⟩
      have a4 := Same.new (o := .lst ([V.int 1] ++ (List.replicate (Int.toNat 24) [V.int 0]).flatten)) h4
      have a5 := Same.new (o := .lst [V.int 1, V.int 0, V.int 0, V.int 0, V.int 1, V.int 1, V.int 0, V.int 1]) h5
      refine ⟨p4, p5, _, _, rfl, rfl, a5 _ _ upd_same, upd_same, s1000 _ (by show 25 + 8 ≤ 10000; decide), fun p6 h6 => ?_⟩
      have S5 := a1.trans (a2.trans (a3.trans (a4.trans a5)))
      exact ⟨p6, rfl, S5.free h6, S5.trans (Same.new h6), upd_same.trans (congrArg (fun l => some (HO.lst l)) underL)⟩
    rintro σ G ⟨pu, rfl, npu, SG, hpu⟩
    -- bits_here
    refine ⟨fun σ G => ∃ q : Addr, σ = [some (.ref a), some (.ref pu), some (.ref q), none, none, none, none] ∧ H q = none ∧ pu ≠ q ∧ Same H G ∧ G pu = some (.lst (tab 33 fun s => b2 (U s))) ∧ G q = some (.lst (startL ns)), ?_, ?_⟩
    · refine ⟨s1000 _ (by show 1 ≤ 10000; decide), fun p1 h1 => ?_⟩
      have a1 : Same G (upd G p1 (.lst [V.int 1])) := Same.new h1
      refine ⟨_, rfl, a, ns, rfl, a1.seq (SG.seq hS), hb, hlen, fun p2 H2 h2 a2 hp2 => ?_⟩
      have lb : (tab (8 * ns.length) fun t => b2 (rowBit ns t)).length ≤ 8000 := by rw [tab_len]; omega
      refine ⟨p1, p2, _, _, rfl, rfl, a2 _ _ upd_same, hp2, s1000 _ (by show 1 + _ ≤ 10000; omega), fun p3 h3 => ⟨s1000 _ (by show 1 ≤ 10000; decide), fun p4 h4 => ⟨p4, 32, _, rfl, rfl, upd_same, by decide, by decide, s1000 _ (by show 1 * 32 ≤ 10000; decide), fun p5 h5 => ?_⟩⟩⟩
      have a3 := Same.new (o := .lst ([V.int 1] ++ tab (8 * ns.length) fun t => b2 (rowBit ns t))) h3
      have a4 := Same.new (o := .lst [V.int 0]) h4
      have a5 := Same.new (o := .lst (List.replicate (Int.toNat 32) [V.int 0]).flatten) h5
      refine ⟨p3, p5, _, _, rfl, rfl, a5 _ _ (a4 _ _ upd_same), upd_same, s1000 _ ?_, fun p6 h6 => ?_⟩
      · rw [List.length_append]
        show (1 + _) + 32 ≤ 10000
        omega
      have S5 := a1.trans (a2.trans (a3.trans (a4.trans a5)))
      exact ⟨p6, rfl, SG.free (S5.free h6), ne_of_none (S5 _ _ hpu) h6, SG.trans (S5.trans (Same.new h6)), (S5.trans (Same.new h6)) _ _ hpu, upd_same.trans (congrArg (fun l => some (HO.lst l)) (startL_eq ns))⟩
    rintro σ G2 ⟨q, rfl, nq, npq, SG2, hpu2, hq⟩
    -- the division
    have el : (startL ns).length = 8 * ns.length + 33 := tab_len _ _
    refine ⟨fun σ G => ∃ x y : Option V, σ = [some (.ref a), some (.ref pu), some (.ref q), x, y, none, none] ∧ Same H G ∧ G q = some (.lst (tab (8 * ns.length + 33) fun t => b2 (st ns (1 + 8 * ns.length) t))), ?_, ?_⟩
    · refine ⟨_, rfl, q, _, rfl, .inl (.inl (.inl hq)), _, _, rfl, rfl, _, rfl, by omega, by omega, for_range (fun i σ G => ∃ x y : Option V, σ = [some (.ref a), some (.ref pu), some (.ref q), x, y, none, none] ∧ Same H G ∧ G pu = some (.lst (tab 33 fun s => b2 (U s))) ∧ G q = some (.lst (tab (8 * ns.length + 33) fun t => b2 (st ns i t))))
        ⟨none, none, rfl, SG2, hpu2, hq⟩ ?_ ?_⟩
      · rintro i σ G hi ⟨x, y, rfl, S3, h3u, h3q⟩
        have hi : i < 8 * ns.length + 1 := by omega
        refine ⟨_, rfl, _, rfl, q, _, _, _, rfl, rfl, .inl (.inl h3q), atI_tab (by omega), rfl, _, rfl, ?_⟩
        refine ite2 (fun hc => ?_) (fun hc => ?_)
        · have hc : st ns i i = true := by
            have := of_decide_eq_true hc
            cases hb : st ns i i with
            | true => rfl
            | false => rw [hb] at this; cases V.int.inj this
          refine ⟨33, rfl, by decide, by decide, for_range (n := 33) (fun j σ G => ∃ y : Option V, σ = [some (.ref a), some (.ref pu), some (.ref q), some (.int (0 + (i : Int))), y, none, none] ∧ Same H G ∧ G pu = some (.lst (tab 33 fun s => b2 (U s))) ∧ G q = some (.lst (tab (8 * ns.length + 33) fun t => b2 (if i ≤ t ∧ t < i + j then (st ns i t ^^ U (t - i)) else st ns i t))))
            ⟨_, rfl, S3, h3u, ?_⟩ ?_ ?_⟩
          · rw [h3q]
            refine congrArg (fun l => some (HO.lst l)) (tab_ext fun t ht => ?_)
            rw [if_neg (by omega)]
          · rintro j σ G' hj ⟨y, rfl, S4, h4u, h4q⟩
            have eij : (0 + (i : Int)) + (0 + (j : Int)) = 0 + ((i + j : Nat) : Int) := by omega
            refine ⟨_, rfl, _, rfl, _, rfl, _, _, rfl, rfl, q, _, _, _, rfl, rfl, .inl (.inl h4q), (by rw [eij]; exact atI_tab (by omega)), _, rfl, _, rfl, pu, _, _, _, rfl, rfl, .inl (.inl h4u), atI_tab hj, scal_b2 _ _, .inr ⟨_, rfl, ?_⟩⟩
            refine ⟨_, rfl, _, rfl, _, rfl, _, _, rfl, rfl, q, _, _, i + j, rfl, rfl, h4q, (by rw [eij, tab_len, Int.zero_add]; exact ixN_nat (by omega)), ?_⟩
            refine ⟨_, rfl, Same.put S4 nq, by rw [upd_ne npq]; exact h4u, ?_⟩
            rw [upd_same, tab_set]
            refine congrArg (fun l => some (HO.lst l)) (tab_ext fun t ht => ?_)
            by_cases h : t = i + j
            · subst h
              rw [if_pos rfl, if_pos (show i ≤ i + j ∧ i + j < i + (j + 1) by omega), b2_ne, if_neg (show ¬ (i ≤ i + j ∧ i + j < i + j) by omega)]
              have e : i + j - i = j := by omega
              rw [e]
            · rw [if_neg h]
              by_cases h1 : i ≤ t ∧ t < i + j
              · rw [if_pos h1, if_pos (by omega)]
              · rw [if_neg h1, if_neg (by omega)]
          · rintro σ G' ⟨y, rfl, S4, h4u, h4q⟩
            refine ⟨_, _, rfl, S4, h4u, ?_⟩
            rw [h4q]
            refine congrArg (fun l => some (HO.lst l)) (tab_ext fun t ht => ?_)
            rw [Crc.st_next, hc, Bool.true_and]
        · have hc : st ns i i = false := by
            cases hb : st ns i i with
            | false => rfl
            | true => exact absurd (decide_eq_true (by rw [hb]; rfl)) hc
          refine ⟨_, _, rfl, S3, h3u, ?_⟩
          rw [h3q]
          refine congrArg (fun l => some (HO.lst l)) (tab_ext fun t ht => ?_)
          rw [Crc.st_same hc]
      · rintro σ G ⟨x, y, rfl, S3, h3u, h3q⟩
        refine ⟨_, _, rfl, S3, ?_⟩
        rw [h3q]
        have e : (((startL ns).length : Int) - 32).toNat = 1 + 8 * ns.length := by omega
        rw [e]
    rintro σ G ⟨x, y, rfl, S5, h5⟩
    refine ⟨_, rfl, 32, rfl, -32, rfl, q, _, rfl, .inl (.inl h5), fun r hr => ?_⟩
    have ecut : cutV (tab (8 * ns.length + 33) fun t => b2 (st ns (1 + 8 * ns.length) t)) (some (-32)) none = tab 32 fun j => b2 ((ck ns).testBit (31 - j)) := by
      rw [tab_cut (by omega)]
      refine tab_ext fun j hj => ?_
      have e : 8 * ns.length + 33 - 32 + j = 1 + 8 * ns.length + j := by omega
      rw [e, Crc.st_end hj]
    refine ⟨r, rfl, ⟨_, .inl (.inl upd_same)⟩, for_list (K := K) (a := r) (xs := tab 32 fun j => b2 ((ck ns).testBit (31 - j))) (fun i σ G' => ∃ z : Option V, σ = [some (.ref a), some (.ref pu), some (.ref q), x, y, some (nI (ck ns / 2 ^ (32 - i))), z] ∧ Same H G' ∧ G' r = some (.lst (tab 32 fun j => b2 ((ck ns).testBit (31 - j)))))
      ⟨none, ?_, S5.trans (Same.new hr), ?_⟩ (fun i σ G' _ ⟨_, _, _, e⟩ => .inl (.inl e)) ?_ ?_⟩
    · have e : ck ns / 2 ^ (32 - 0) = 0 := Nat.div_eq_of_lt (Crc.ckTo_lt _ _)
      rw [e]
      rfl
    · rw [upd_same, ecut]
    · rintro i v σ G' hi ⟨z, rfl, S6, h6⟩
      have hi32 := (List.getElem?_eq_some_iff.mp hi).1
      rw [tab_len] at hi32
      rw [tab_at hi32] at hi
      obtain rfl := Option.some.inj hi
      have hlt : ck ns / 2 ^ (32 - i) < 2 ^ 32 := Nat.lt_of_le_of_lt (Nat.div_le_self _ _) (Crc.ckTo_lt _ _)
      have hI : -(2 ^ 64) < ((ck ns / 2 ^ (32 - i) : Nat) : Int) ∧ ((ck ns / 2 ^ (32 - i) : Nat) : Int) < 2 ^ 64 := by
        generalize ck ns / 2 ^ (32 - i) = R at hlt ⊢
        omega
      refine ⟨_, rfl, _, _, rfl, rfl, .inl hI, _, rfl, _, _, rfl, rfl, ?_⟩
      refine ⟨some (b2 ((ck ns).testBit (31 - i))), ?_, S6, h6⟩
      rw [Crc.fold_step hi32]
      have e : ((ck ns / 2 ^ (32 - i) : Nat) : Int) * 2 + (if (ck ns).testBit (31 - i) = true then 1 else 0) = ((ck ns / 2 ^ (32 - i) * 2 + (if (ck ns).testBit (31 - i) = true then 1 else 0) : Nat) : Int) := by
        split <;> omega
      show [_, _, _, _, _, some (V.int (((ck ns / 2 ^ (32 - i) : Nat) : Int) * 2 + (if (ck ns).testBit (31 - i) = true then 1 else 0))), _] = _
      rw [e]
    · rintro σ G' ⟨z, rfl, S6, h6⟩
      refine ⟨_, rfl, ?_⟩
      rw [tab_len]
      have e : ck ns / 2 ^ (32 - 32) = ck ns := Nat.div_one _
      rw [e]
      exact k _ S6
end
end Wq

set_option Elab.async false
set_option linter.all false
set_option maxRecDepth 100000
set_option maxHeartbeats 2000000
namespace Wq
open PySem PySem.Spec PyProof.Rows L2
open Crc (rg chk rowBit ckTo ck pm it mx tog D U st bt)
def weights : List V := [V.int 128, V.int 64, V.int 32, V.int 16, V.int 8, V.int 4, V.int 2, V.int 1]
theorem w_at : ∀ q, q < 8 → weights[q]? = some (nI (2 ^ (7 - q))) := by
  intro q h
  match q, h with
  | 0, _ => rfl
  | 1, _ => rfl
  | 2, _ => rfl
  | 3, _ => rfl
  | 4, _ => rfl
  | 5, _ => rfl
  | 6, _ => rfl
  | 7, _ => rfl
theorem flipI {x q : Nat} (hx : x < 256) (hq : q < 8) : (x : Int) + ((2 ^ (7 - q) : Nat) : Int) - 2 * ((2 ^ (7 - q) : Nat) : Int) * (((x : Int).fdiv ((2 ^ (7 - q) : Nat) : Int)) % 2) = ((x ^^^ 2 ^ (7 - q) : Nat) : Int) := by
  obtain ⟨e1, e2, e3⟩ := Crc.flip_ok x hx q hq
  generalize 2 ^ (7 - q) = w at *
  rw [Int.fdiv_eq_ediv_of_nonneg _ (by omega)]
  have e : ((x : Int) / (w : Int)) % 2 = ((x / w % 2 : Nat) : Int) := by
    rw [Int.natCast_emod, Int.natCast_ediv]
    rfl
  have e' : 2 * (w : Int) * ((x / w % 2 : Nat) : Int) = ((2 * w * (x / w % 2) : Nat) : Int) := by
    rw [Int.natCast_mul, Int.natCast_mul]
    rfl
  rw [e, e']
  generalize 2 * w * (x / w % 2) = m at *
  omega
theorem map_set_nI (ns : List Nat) (i x : Nat) : (ns.map nI).set i (nI x) = (ns.set i x).map nI := (List.map_set ..).symm
section
variable {P : Program} {w : World} {K : PySem.W.Frag} {mg : Str → Option Value} {base : Heap}
theorem ok_turned (Df : DefAt K mg "_law_turned" sTurned) (T : Txt K mg) : Cl P w K mg base 1 "_law_turned" (spTurned K) := by
  refine cl_of Df scTurned (fun vs H Q E h => ?_) (fun _ _ _ _ _ _ us hl => match us, hl with | [_, _], _ => rfl) (fun f cdv A outer s H vs Q E hr h => ?_)
  · obtain ⟨a, b, ns, ps, rfl, _⟩ := h
    rfl
  · obtain ⟨a, b, ns, ps, rfl, hS, hP, hb, hp, k⟩ := h
    refine ⟨_, pss_cons (ps_set (i := 2) scTurned.nd rfl (Or.inl rfl) (pe_callTy call_list_of (by rfl) (by exact T.list) (by decide +kernel) (pa_cons (pv 0) pa_nil)))
      (pss_cons (ps_for PassesOwn.never rfl (pi_list (pv 1)) (pg_name (i := 3) scTurned.nd rfl (Or.inl rfl))
        (pss_cons (ps_set (i := 4) scTurned.nd rfl (Or.inl rfl) (pe_ix ix_list (pe_lst (pa_cons pe_int (pa_cons pe_int (pa_cons pe_int (pa_cons pe_int (pa_cons pe_int (pa_cons pe_int (pa_cons pe_int (pa_cons pe_int pa_nil))))))))) (pe_op op_mod (pe_callTy call_int1 (by rfl) (by exact T.int) PyProof.Rows.boot_int (pa_cons (pv 3) pa_nil)) pe_int) (fun _ _ => rfl)))
        (pss_cons (ps_set (i := 5) scTurned.nd rfl (Or.inl rfl) (pe_ix ix_list (pv 2) (pe_op op_fdiv (pe_callTy call_int1 (by rfl) (by exact T.int) PyProof.Rows.boot_int (pa_cons (pv 3) pa_nil)) pe_int) (fun _ _ => rfl)))
        (pss_cons (ps_set (i := 6) scTurned.nd rfl (Or.inl rfl) (pe_op op_mod (pe_op op_fdivN (pe_callTy call_int1 (by rfl) (by exact T.int) PyProof.Rows.boot_int (pa_cons (pv 5) pa_nil)) (pv 4)) pe_int))
        (pss_one (ps_asg (pe_op op_sub (pe_op op_add (pv 5) (pv 4)) (pe_op op_mul (pe_op op_mul pe_int (pv 4)) (pv 6))) (pg_sub (pv 2) (pe_op op_fdiv (pe_callTy call_int1 (by rfl) (by exact T.int) PyProof.Rows.boot_int (pa_cons (pv 3) pa_nil)) pe_int) set_list)))))))
      (pss_one (ps_ret (pv 2)))), ?_⟩
    refine ⟨_, rfl, a, _, rfl, .inl hS, fun l hl => ?_⟩
    have s0 : Same H (upd H l (.lst (ns.map nI))) := Same.new hl
    refine ⟨_, rfl, b, rfl, ⟨_, s0.seq hP⟩, for_list (K := K) (a := b) (xs := ps.map nI) (fun i σ H' => ∃ (u v x y : Option V) (ns' : List Nat), σ = [some (.ref a), some (.ref b), some (.ref l), u, v, x, y] ∧ Same H H' ∧ H' l = some (.lst (ns'.map nI)) ∧ ns'.length = ns.length ∧ (∀ n ∈ ns', n < 256) ∧ (∀ t, rowBit ns' t = (rowBit ns t ^^ tog (ps.take i) t)))
      ⟨none, none, none, none, ns, rfl, s0, upd_same, rfl, hb, fun t => by show _ = (_ ^^ false); rw [Bool.xor_false]⟩ (fun i σ H' _ ⟨_, _, _, _, _, _, s, _⟩ => s.seq hP) ?_ ?_⟩
    · rintro i v σ H' hi ⟨u, v', x, y, ns', rfl, sm, hl', hlen, hb', hbit⟩
      obtain ⟨p, hpi, rfl⟩ := nats_at hi
      have hp8 : p < 8 * ns.length := hp p (List.mem_of_getElem? hpi)
      have hq : p % 8 < 8 := Nat.mod_lt _ (by decide)
      obtain ⟨z, hz⟩ : ∃ z, ns'[p / 8]? = some z := ⟨ns'[p / 8]'(by omega), List.getElem?_eq_getElem (by omega)⟩
      have hz8 : z < 256 := hb' z (List.mem_of_getElem? hz)
      have em : (p : Int) % 8 = ((p % 8 : Nat) : Int) := by omega
      have ed : (p : Int) / 8 = ((p / 8 : Nat) : Int) := by omega
      have hw : 0 < 2 ^ (7 - p % 8) ∧ 2 ^ (7 - p % 8) ≤ 128 := ⟨Nat.pow_pos (by decide), Nat.pow_le_pow_right (n := 2) (j := 7) (by decide) (by omega)⟩
      -- weight
      refine ⟨by show 8 ≤ sizeLine; decide, fun d hd => ⟨_, rfl, .inl ⟨_, rfl, _, _, rfl, rfl, (by show (0 : Int) < 8; decide), ?_⟩⟩⟩
      refine ⟨d, weights, _, nI (2 ^ (7 - p % 8)), rfl, rfl, .inl (.inl upd_same), (by rw [em]; exact atI_nat (w_at _ hq)), ?_⟩
      have s1 : Same H' (upd H' d (.lst weights)) := Same.new hd
      have hz' : (ns'.map nI)[p / 8]? = some (nI z) := by rw [List.getElem?_map, hz]; rfl
      -- byte
      refine ⟨_, rfl, _, rfl, .inl ⟨_, rfl, _, _, rfl, rfl, ⟨by decide, by decide⟩, l, _, _, nI z, rfl, rfl, .inl (.inl (s1 _ _ hl')), (by rw [ed]; exact atI_nat hz'), ?_⟩⟩
      -- bit
      have hI : ((2 ^ (7 - p % 8) : Nat) : Int) ≠ 0 ∧ ((2 ^ (7 - p % 8) : Nat) : Int).natAbs < 1073741824 := by
        generalize 2 ^ (7 - p % 8) = W at hw ⊢
        omega
      refine ⟨_, rfl, .inl ⟨_, rfl, _, rfl, _, _, rfl, rfl, hI, _, _, rfl, rfl, (by show (0 : Int) < 2; decide), ?_⟩⟩
      -- store
      have hv : (z : Int) + ((2 ^ (7 - p % 8) : Nat) : Int) - 2 * ((2 ^ (7 - p % 8) : Nat) : Int) * (((z : Int).fdiv ((2 ^ (7 - p % 8) : Nat) : Int)) % 2) = ((z ^^^ 2 ^ (7 - p % 8) : Nat) : Int) := flipI hz8 hq
      refine ⟨_, rfl, _, rfl, _, _, rfl, rfl, _, rfl, _, _, rfl, rfl, .inl (by decide), _, rfl, _, _, rfl, rfl, .inl ?_, _, _, rfl, rfl, ?_⟩
      · generalize 2 ^ (7 - p % 8) = W at hw ⊢
        show -(2 ^ 64) < 2 * (W : Int) ∧ 2 * (W : Int) < 2 ^ 64
        omega
      refine ⟨_, rfl, _, rfl, .inl ⟨_, rfl, _, _, rfl, rfl, ⟨by decide, by decide⟩, l, _, _, p / 8, rfl, rfl, s1 _ _ hl', (by rw [ed, List.length_map]; exact ixN_nat (by omega)), ?_⟩⟩
      refine ⟨some (nI p), some (nI (2 ^ (7 - p % 8))), some (nI z), _, ns'.set (p / 8) (z ^^^ 2 ^ (7 - p % 8)), rfl, Same.put (sm.trans s1) hl, ?_, ?_, ?_, ?_⟩
      · rw [upd_same, ← map_set_nI]
        refine congrArg (fun v => some (HO.lst ((ns'.map nI).set (p / 8) v))) ?_
        exact congrArg V.int hv
      · rw [List.length_set]; exact hlen
      · intro n hn
        rcases List.mem_or_eq_of_mem_set hn with h | h
        · exact hb' n h
        · rw [h]
          exact (Crc.flip_ok z hz8 _ hq).2.2
      · intro t
        rw [Crc.rowBit_set hz, hbit, List.take_add_one, hpi]
        show _ = (_ ^^ tog (ps.take i ++ [p]) t)
        rw [Crc.tog_app, Bool.xor_assoc]
        show _ = (_ ^^ (_ ^^ (decide (t = p) ^^ false)))
        rw [Bool.xor_false]
    · rintro σ H' ⟨u, v', x, y, ns', rfl, sm, hl', hlen, hb', hbit⟩
      refine ⟨_, rfl, ?_⟩
      rw [List.length_map, List.take_length] at hbit
      exact k l H' ns' hl sm hl' hlen hb' hbit
end
end Wq

set_option Elab.async false
set_option linter.all false
set_option maxRecDepth 100000
set_option maxHeartbeats 4000000
namespace Wq
open PySem PySem.Spec PyProof.Rows L2
open Crc (rg chk rowBit ckTo ck pm it mx tog D U st bt)
abbrev sLaw : Stmt := top 16
abbrev lawN : List Str := ["_law_script", "_law_pen_here", "_law_turn", "_law_one", "_law_two", "_law_left", "_law_right", "_law_whole", "_law_many", "_law_again", "_law_first", "_law_more", "_law_turned_here", "_law_k"]
theorem scLaw : FnScope lawN ["_law_script"] (defScope sLaw) := ⟨rfl, rfl, rfl, by decide +kernel, rfl, by decide +kernel, by decide +kernel⟩
def spLaw (K : PySem.W.Frag) : Sp := fun vs H Q _ => ∃ (a : Addr) (ns : List Int), vs = [.ref a] ∧ SqL K H a (ns.map V.int) ∧ ∀ H', Q (.bl true) H'
section
variable {P : Program} {w : World} {K : PySem.W.Frag} {mg : Str → Option Value} {base : Heap}
theorem byte_pick {v : Int} {i : Nat} {y : V} (h0 : 0 ≤ v) (h1 : v < 256) (h : ([V.int 0, V.int 0, V.int 255, V.int v] : List V)[i]? = some y) : ∃ z : Nat, y = nI z ∧ z < 256 := by
  match i, h with
  | 0, h => exact ⟨0, (Option.some.inj h).symm, by decide⟩
  | 1, h => exact ⟨0, (Option.some.inj h).symm, by decide⟩
  | 2, h => exact ⟨255, (Option.some.inj h).symm, by decide⟩
  | 3, h =>
    refine ⟨v.toNat, ?_, by omega⟩
    have e : ((v.toNat : Nat) : Int) = v := by omega
    rw [nI, e]
    exact (Option.some.inj h).symm
  | n + 4, h => cases h
structure Cls3 (P : Program) (w : World) (K : PySem.W.Frag) (mg : Str → Option Value) (base : Heap) : Prop where
  pen : Cl P w K mg base 1 "_law_pen" (spPen K)
  draw : Cl P w K mg base 1 "_law_draw" (spDraw K)
  pick : Cl P w K mg base 2 "_law_pick" (spPick K)
  check : Cl P w K mg base 1 "check_of" (spCheckOf K)
  joined : Cl P w K mg base 3 "joined_check" spJoined
  lcheck : Cl P w K mg base 2 "_law_check" (spLCheck K)
  turned : Cl P w K mg base 1 "_law_turned" (spTurned K)
/-- what stands in the middle of a turn -/
structure Two (H : Hp) (p c l1 l2 : Addr) (n1 n2 : List Nat) (m : Nat) : Prop where
  pen : PenAt H p c m
  h1 : H l1 = some (.lst (n1.map nI))
  h2 : H l2 = some (.lst (n2.map nI))
  b1 : ∀ n ∈ n1, n < 256
  b2 : ∀ n ∈ n2, n < 256
  s1 : n1.length ≤ 11
  s2 : n2.length ≤ 8
theorem Two.same {H H' : Hp} {p c l1 l2 : Addr} {n1 n2 : List Nat} {m : Nat} (T : Two H p c l1 l2 n1 n2 m) (s : Same H H') : Two H' p c l1 l2 n1 n2 m := ⟨T.pen.same s, s _ _ T.h1, s _ _ T.h2, T.b1, T.b2, T.s1, T.s2⟩
theorem ok_law {fa : Addr} {fd : FuncData} (F : Fun K "law" "law" sLaw fa fd) (T : Txt K mg) (C : Cls3 P w K mg base) : FnOk P w K mg base CX0 4 fa fd ["_law_script"] (spLaw K) := by
  refine F.ok scLaw (fun vs H Q E h => ?_) (fun cdv A outer s H vs Q E hr h => ?_)
  · obtain ⟨a, ns, rfl, _⟩ := h
    rfl
  · obtain ⟨a, ns, rfl, hS, k⟩ := h
    refine ⟨_, pss_cons (ps_set (i := 1) scLaw.nd rfl (Or.inr rfl) (pe_cl C.pen hr (by decide) rfl (pa_cons (pv 0) pa_nil)))
      (pss_cons (ps_for PassesOwn.never rfl (pi_range1 rfl (by exact T.range) (pa_cons pe_int pa_nil)) (pg_name (i := 2) scLaw.nd rfl (Or.inl rfl))
        (C8.pss_cut (ps_setLc (i := 3) (own := [("_law_k", 13)]) (g := gName 13) (tt := tYes) (by rfl) scLaw.nd rfl rfl (sw_true rfl rfl rfl (by decide +kernel)) (pi_range1 rfl (by exact T.range) (pa_cons (pe_cl C.draw hr (by decide) rfl (pa_cons (pv 1) (pa_cons pe_int pa_nil))) pa_nil)) (blkOk_by (own := [("_law_k", 13)]) (N := lawN) (sc := defScope sLaw) (by decide +kernel)) (fun _ _ _ _ _ => pg_name (i := 13) scLaw.nd rfl (Or.inl rfl)) (fun _ _ _ _ _ => pts_nil)
          (fun _ _ _ _ _ => pe_cl C.pick hr (by decide) rfl (pa_cons (pv 1) (pa_cons (pe_lst (pa_cons pe_int (pa_cons pe_int (pa_cons pe_int (pa_cons (pe_cl C.draw hr (by decide) rfl (pa_cons (pv 1) (pa_cons pe_int pa_nil))) pa_nil))))) pa_nil))))
        (C8.pss_cut (ps_setLc (i := 4) (own := [("_law_k", 13)]) (g := gName 13) (tt := tYes) (by rfl) scLaw.nd rfl rfl (sw_true rfl rfl rfl (by decide +kernel)) (pi_range1 rfl (by exact T.range) (pa_cons (pe_cl C.draw hr (by decide) rfl (pa_cons (pv 1) (pa_cons pe_int pa_nil))) pa_nil)) (blkOk_by (own := [("_law_k", 13)]) (N := lawN) (sc := defScope sLaw) (by decide +kernel)) (fun _ _ _ _ _ => pg_name (i := 13) scLaw.nd rfl (Or.inl rfl)) (fun _ _ _ _ _ => pts_nil)
          (fun _ _ _ _ _ => pe_cl C.draw hr (by decide) rfl (pa_cons (pv 1) (pa_cons pe_int pa_nil))))
        (C8.pss_cut (ps_par (i := 5) (j := 6) (by rfl) scLaw.nd rfl rfl (by decide) rfl rfl (pa_cons (pe_cl C.check hr (by decide) rfl (pa_cons (pe_callTy call_tuple_of (by rfl) (by exact T.tuple) (by decide +kernel) (pa_cons (pv 3) pa_nil)) pa_nil)) (pa_cons (pe_cl C.check hr (by decide) rfl (pa_cons (pe_callTy call_tuple_of (by rfl) (by exact T.tuple) (by decide +kernel) (pa_cons (pv 4) pa_nil)) pa_nil)) pa_nil)) (by rfl))
        (C8.pss_cut (ps_if (PW.pt (pw_or (pt_cmpR op_ne (pv 5) (pe_cl C.lcheck hr (by decide) rfl (pa_cons (pv 3) pa_nil)) (nomark _)) (pw_or1 (pt_cmpR op_ne (pv 6) (pe_cl C.lcheck hr (by decide) rfl (pa_cons (pv 4) pa_nil)) (nomark _))))) (pss_one (ps_ret pe_bl)) pss_nil)
        (C8.pss_cut (ps_set (i := 7) scLaw.nd rfl (Or.inl rfl) (pe_cl C.lcheck hr (by decide) rfl (pa_cons (pe_op op_cat (pv 3) (pv 4)) pa_nil)))
        (C8.pss_cut (ps_if (PW.pt (pw_or (pt_cmpR op_ne (pe_cl C.joined hr (by decide) rfl (pa_cons (pv 5) (pa_cons (pv 6) (pa_cons (pe_callB call_len_seq (by rfl) (by exact T.len) PySem.boot_len (pa_cons (pv 4) pa_nil)) pa_nil)))) (pv 7) (nomark _)) (pw_or1 (pt_cmpR op_ne (pe_cl C.check hr (by decide) rfl (pa_cons (pe_callTy call_tuple_of (by rfl) (by exact T.tuple) (by decide +kernel) (pa_cons (pe_op op_cat (pv 3) (pv 4)) pa_nil)) pa_nil)) (pv 7) (nomark _))))) (pss_one (ps_ret pe_bl)) pss_nil)
        (pss_cons (ps_set (i := 8) scLaw.nd rfl (Or.inl rfl) (pe_op op_mul pe_int (pe_callB call_len_seq (by rfl) (by exact T.len) PySem.boot_len (pa_cons (pv 3) pa_nil))))
        (pss_one (ps_for PassesOwn.never rfl (pi_range1 rfl (by exact T.range) (pa_cons (pe_op op_mul pe_int (pe_callTy call_int1 (by rfl) (by exact T.int) PyProof.Rows.boot_int (pa_cons (pe_cmpR op_gt (pv 8) pe_int (nomark _)) pa_nil))) pa_nil)) (pg_name (i := 9) scLaw.nd rfl (Or.inl rfl))
          (pss_cons (ps_set (i := 10) scLaw.nd rfl (Or.inl rfl) (pe_cl C.draw hr (by decide) rfl (pa_cons (pv 1) (pa_cons (pv 8) pa_nil))))
          (C8.pss_cut (ps_setLc (i := 11) (own := [("_law_k", 13)]) (g := gName 13) (by rfl) scLaw.nd rfl rfl (sw_true rfl rfl rfl (by decide +kernel)) (pi_range2 rfl (by exact T.range) (pa_cons (pe_op op_add (pv 10) pe_int) (pa_cons (pe_callB (call_min2 rfl) (by rfl) (by exact T.min) (by decide +kernel) (pa_cons (pv 8) (pa_cons (pe_op op_add (pv 10) pe_int) pa_nil))) pa_nil))) (blkOk_by (own := [("_law_k", 13)]) (N := lawN) (sc := defScope sLaw) (by decide +kernel)) (fun _ _ _ _ _ => pg_name (i := 13) scLaw.nd rfl (Or.inl rfl)) (fun _ _ _ _ _ => pts_one (pt_cmpR op_eq (pe_cl C.draw hr (by decide) rfl (pa_cons (pv 1) (pa_cons pe_int pa_nil))) pe_int (nomark _)))
            (fun _ _ _ _ _ => pv 13))
          (pss_cons (ps_set (i := 12) scLaw.nd rfl (Or.inl rfl) (pe_cl C.turned hr (by decide) rfl (pa_cons (pv 3) (pa_cons (pe_op op_cat (pe_lst (pa_cons (pv 10) pa_nil)) (pe_ifExp (pt_cmpR op_gt (pv 9) pe_int (nomark _)) (pv 11) (pe_slice sl_list (pv 11) po_none (po_some (pv 9))))) pa_nil))))
          (pss_one (ps_if (pt_cmpR op_eq (pe_cl C.check hr (by decide) rfl (pa_cons (pe_callTy call_tuple_of (by rfl) (by exact T.tuple) (by decide +kernel) (pa_cons (pv 12) pa_nil)) pa_nil)) (pv 5) (nomark _)) (pss_one (ps_ret pe_bl)) pss_nil)))))))))))))))
      (pss_one (ps_ret pe_bl))), ?_⟩
    refine ⟨_, rfl, a, ns, rfl, hS, fun p c H0 _ _ HP0 => ?_⟩
    refine ⟨2, rfl, by decide, by decide, for_range (n := 2) (fun i σ G => ∃ x2 x3 x4 x5 x6 x7 x8 x9 x10 x11 x12 : Option V, σ = [some (.ref a), some (.ref p), x2, x3, x4, x5, x6, x7, x8, x9, x10, x11, x12, none] ∧ PenAt G p c (1000 * i))
      ⟨_, _, _, _, _, _, _, _, _, _, _, rfl, HP0⟩ ?_ ?_⟩
    · rintro i σ G hi ⟨x2, x3, x4, x5, x6, x7, x8, x9, x10, x11, x12, rfl, HP⟩
      -- one
      refine ⟨fun σ G => ∃ (l1 : Addr) (n1 : List Nat), σ = [some (.ref a), some (.ref p), some (.int (0 + (i : Int))), some (.ref l1), x4, x5, x6, x7, x8, x9, x10, x11, x12, none] ∧ PenAt G p c (1000 * i + 30) ∧ G l1 = some (.lst (n1.map nI)) ∧ (∀ n ∈ n1, n < 256) ∧ n1.length ≤ 11, ?_, ?_⟩
      · refine ⟨_, rfl, p, c, _, _, rfl, HP, by omega, by decide, by decide, fun v o v0 v1 HP1 => ⟨v, rfl, by omega, by omega, fun D hD => ?_⟩⟩
        obtain ⟨_, hpd⟩ := HP1.dict
        obtain ⟨_, hcd⟩ := HP1.cells
        have npD : p ≠ D := ne_of_none hpd hD
        have ncD : c ≠ D := ne_of_none hcd hD
        refine lc_range (lo := 0) (n := v.toNat) (fun j G => ∃ n1 : List Nat, G D = some (.lst (n1.map nI)) ∧ n1.length = j ∧ (∀ n ∈ n1, n < 256) ∧ PenAt G p c (1000 * i + 1 + 2 * j))
          ⟨[], upd_same, rfl, (fun n h => by cases h), HP1.put npD ncD⟩ ?_ ?_
        · rintro j G2 hj ⟨n1, hD2, hl, hb, HP2⟩
          refine ⟨rfl, ?_⟩
          refine ⟨_, rfl, _, rfl, p, c, _, _, rfl, HP2, by omega, by decide, by decide, fun v' o' w0 w1 HP3 => ⟨by show 4 ≤ sizeLine; decide, fun q hq => ?_⟩⟩
          obtain ⟨_, hp3⟩ := HP3.dict
          obtain ⟨_, hc3⟩ := HP3.cells
          have hD3 := HP2.lst (o := o') hD2
          have HP4 := HP3.put (o := .lst [V.int 0, V.int 0, V.int 255, V.int v']) (ne_of_none hp3 hq) (ne_of_none hc3 hq)
          refine ⟨p, c, q, _, _, rfl, HP4, .inl (.inl upd_same), by omega, (by show 0 < 4; decide), (by show 4 < 1073741824; decide), fun e y o4 hy HP5 => ?_⟩
          obtain ⟨z, rfl, hz⟩ := byte_pick w0 w1 hy
          have hD4 := (Same.new (o := .lst [V.int 0, V.int 0, V.int 255, V.int v']) hq) _ _ hD3
          have hD5 := HP4.lst (o := o4) hD4
          refine ⟨_, hD5, ?_, n1 ++ [z], ?_, ?_, ?_, ?_⟩
          · rw [List.length_map]
            exact small1000 (by omega)
          · rw [upd_same, List.map_append]
            rfl
          · rw [List.length_append, hl]
            rfl
          · intro n hn
            rcases List.mem_append.mp hn with h | h
            · exact hb n h
            · rw [List.mem_singleton.mp h]
              exact hz
          · refine (HP5.mono (by omega)).put npD ncD
        · rintro G2 ⟨n1, hD2, hl, hb, HP2⟩
          exact ⟨D, n1, rfl, HP2.mono (by omega), hD2, hb, by omega⟩
      rintro σ G1 ⟨l1, n1, rfl, HP1, hl1, hb1, hn1⟩
      -- two
      refine ⟨fun σ G => ∃ (l2 : Addr) (n2 : List Nat), σ = [some (.ref a), some (.ref p), some (.int (0 + (i : Int))), some (.ref l1), some (.ref l2), x5, x6, x7, x8, x9, x10, x11, x12, none] ∧ Two G p c l1 l2 n1 n2 (1000 * i + 50), ?_, ?_⟩
      · refine ⟨_, rfl, p, c, _, _, rfl, HP1, by omega, by decide, by decide, fun v o v0 v1 HP2 => ⟨v, rfl, by omega, by omega, fun D hD => ?_⟩⟩
        obtain ⟨_, hpd⟩ := HP2.dict
        obtain ⟨_, hcd⟩ := HP2.cells
        have npD : p ≠ D := ne_of_none hpd hD
        have ncD : c ≠ D := ne_of_none hcd hD
        have hl2 := HP1.lst (o := o) hl1
        have n1D : l1 ≠ D := ne_of_none hl2 hD
        refine lc_range (lo := 0) (n := v.toNat) (fun j G => ∃ n2 : List Nat, G D = some (.lst (n2.map nI)) ∧ G l1 = some (.lst (n1.map nI)) ∧ n2.length = j ∧ (∀ n ∈ n2, n < 256) ∧ PenAt G p c (1000 * i + 31 + 1 * j))
          ⟨[], upd_same, by rw [upd_ne n1D]; exact hl2, rfl, (fun n h => by cases h), HP2.put npD ncD⟩ ?_ ?_
        · rintro j G2 hj ⟨n2, hD2, h12, hl, hb, HP2⟩
          refine ⟨rfl, ?_⟩
          refine ⟨_, rfl, p, c, _, _, rfl, HP2, by omega, by decide, by decide, fun v' o' w0 w1 HP3 => ?_⟩
          have hD3 := HP2.lst (o := o') hD2
          have h13 := HP2.lst (o := o') h12
          have ev : V.int v' = nI v'.toNat := congrArg V.int (by omega)
          refine ⟨_, hD3, ?_, n2 ++ [v'.toNat], ?_, ?_, ?_, ?_, ?_⟩
          · rw [List.length_map]
            exact small1000 (by omega)
          · rw [upd_same, List.map_append, ev]
            rfl
          · rw [upd_ne n1D]
            exact h13
          · rw [List.length_append, hl]
            rfl
          · intro n hn
            rcases List.mem_append.mp hn with h | h
            · exact hb n h
            · rw [List.mem_singleton.mp h]
              omega
          · refine (HP3.mono (by omega)).put npD ncD
        · rintro G2 ⟨n2, hD2, h12, hl, hb, HP2⟩
          exact ⟨D, n2, rfl, HP2.mono (by omega), h12, hD2, hb1, hb, hn1, by omega⟩
      rintro σ G2 ⟨l2, n2, rfl, T2⟩
      -- left, right
      refine ⟨fun σ G => σ = [some (.ref a), some (.ref p), some (.int (0 + (i : Int))), some (.ref l1), some (.ref l2), some (nI (ck n1)), some (nI (ck n2)), x7, x8, x9, x10, x11, x12, none] ∧ Two G p c l1 l2 n1 n2 (1000 * i + 50), ?_, ?_⟩
      · refine ⟨_, rfl, l1, _, rfl, .inl ⟨.inl (.inl T2.h1), fun t ht => ⟨t, n1, rfl, .inl (.inl upd_same), T2.b1, ?_⟩⟩⟩
        have T3 := T2.same (Same.new (o := .tup (n1.map nI)) ht)
        refine ⟨_, rfl, l2, _, rfl, .inl ⟨.inl (.inl T3.h2), fun t' ht' => ⟨t', n2, rfl, .inl (.inl upd_same), T2.b2, ?_⟩⟩⟩
        exact ⟨_, _, rfl, rfl, T3.same (Same.new ht')⟩
      rintro σ G3 ⟨rfl, T3⟩
      refine ⟨fun σ G => σ = [some (.ref a), some (.ref p), some (.int (0 + (i : Int))), some (.ref l1), some (.ref l2), some (nI (ck n1)), some (nI (ck n2)), x7, x8, x9, x10, x11, x12, none] ∧ Two G p c l1 l2 n1 n2 (1000 * i + 50), ?_, ?_⟩
      · have q1 := T3.s1
        have q2 := T3.s2
        refine ⟨_, rfl, _, rfl, l1, n1, rfl, .inl (.inl T3.h1), T3.b1, by omega, fun H' sm => ⟨rfl, _, rfl, ?_⟩⟩
        refine iteNS rfl ?_
        have T4 := T3.same sm
        refine ⟨_, rfl, _, rfl, l2, n2, rfl, .inl (.inl T4.h2), T3.b2, by omega, fun H'' sm' => ⟨rfl, _, rfl, ?_⟩⟩
        refine iteNS rfl ?_
        exact ⟨rfl, T4.same sm'⟩
      rintro σ G4 ⟨rfl, T4⟩
      have q1 := T4.s1
      have q2 := T4.s2
      have hb12 : ∀ n ∈ n1 ++ n2, n < 256 := fun n hn => (List.mem_append.mp hn).elim (T4.b1 n) (T4.b2 n)
      -- whole
      refine ⟨fun σ G => σ = [some (.ref a), some (.ref p), some (.int (0 + (i : Int))), some (.ref l1), some (.ref l2), some (nI (ck n1)), some (nI (ck n2)), some (nI (ck (n1 ++ n2))), x8, x9, x10, x11, x12, none] ∧ Two G p c l1 l2 n1 n2 (1000 * i + 50), ?_, ?_⟩
      · refine ⟨_, rfl, _, rfl, l1, l2, _, _, rfl, rfl, T4.h1, T4.h2, ?_, fun q hq => ⟨q, n1 ++ n2, rfl, .inl (.inl ?_), hb12, ?_, fun H' sm => ?_⟩⟩
        · rw [List.length_map, List.length_map, sizeLine_eq]
          omega
        · rw [upd_same, List.map_append]
        · rw [List.length_append]
          omega
        · exact ⟨rfl, T4.same ((Same.new hq).trans sm)⟩
      rintro σ G5 ⟨rfl, T5⟩
      refine ⟨fun σ G => σ = [some (.ref a), some (.ref p), some (.int (0 + (i : Int))), some (.ref l1), some (.ref l2), some (nI (ck n1)), some (nI (ck n2)), some (nI (ck (n1 ++ n2))), x8, x9, x10, x11, x12, none] ∧ Two G p c l1 l2 n1 n2 (1000 * i + 50), ?_, ?_⟩
      · refine ⟨_, rfl, _, rfl, _, rfl, l2, _, rfl, .inl (.inl (.inl T5.h2)), ck n1, ck n2, _, rfl, Crc.ckTo_lt _ _, Crc.ckTo_lt _ _, _, rfl, rfl, _, rfl, ?_⟩
        refine iteNS ?_ ?_
        · rw [Crc.ck_joined, List.length_map]
        refine ⟨_, rfl, _, rfl, l1, l2, _, _, rfl, rfl, T5.h1, T5.h2, ?_, fun q hq => ⟨q, _, rfl, .inl ⟨.inl (.inl upd_same), fun t ht => ⟨t, n1 ++ n2, rfl, .inl (.inl ?_), hb12, _, rfl, rfl, _, rfl, ?_⟩⟩⟩⟩
        · rw [List.length_map, List.length_map, sizeLine_eq]
          omega
        · rw [upd_same, List.map_append]
        refine iteNS rfl ?_
        exact ⟨rfl, T5.same ((Same.new hq).trans (Same.new ht))⟩
      rintro σ G6 ⟨rfl, T6⟩
      refine ⟨_, rfl, l1, _, rfl, .inl (.inl (.inl T6.h1)), _, _, rfl, rfl, .inl ⟨by decide, by decide⟩, ?_⟩
      have em : (8 : Int) * (((n1.map nI).length : Nat) : Int) = ((8 * n1.length : Nat) : Int) := by rw [List.length_map]; omega
      refine ⟨_, rfl, _, _, rfl, rfl, .inr ⟨_, rfl, _, _, rfl, rfl, .inl ⟨by decide, by decide⟩, _, rfl, ?_, ?_, for_range (fun j σ G => ∃ x9 x10 x11 x12 : Option V, σ = [some (.ref a), some (.ref p), some (.int (0 + (i : Int))), some (.ref l1), some (.ref l2), some (nI (ck n1)), some (nI (ck n2)), some (nI (ck (n1 ++ n2))), some (nI (8 * n1.length)), x9, x10, x11, x12, none] ∧ Two G p c l1 l2 n1 n2 (1000 * i + 50 + 100 * j))
        ⟨x9, x10, x11, x12, ?_, T6⟩ ?_ ?_⟩⟩
      · have e6 : (6 : Int) * (if decide ((0 : Int) < 8 * ((n1.map nI).length : Int)) = true then 1 else 0) ≥ 0 := by split <;> decide
        show -(2 ^ 62) ≤ (6 : Int) * (if decide ((0 : Int) < 8 * ((n1.map nI).length : Int)) = true then 1 else 0)
        omega
      · show (6 : Int) * (if decide ((0 : Int) < 8 * ((n1.map nI).length : Int)) = true then 1 else 0) < 2 ^ 62
        split <;> decide
      · show [_, _, _, _, _, _, _, _, some (V.int ((8 : Int) * (((n1.map nI).length : Nat) : Int))), _, _, _, _, _] = _
        rw [em]
      · rintro j σ G7 hj ⟨x9, x10, x11, x12, rfl, T7⟩
        have hpos : 0 < n1.length := by
          by_cases h0 : 0 < n1.length
          · exact h0
          · exfalso
            have e0 : ((n1.map nI).length : Int) = 0 := by rw [List.length_map]; omega
            have hj : j < Int.toNat ((6 : Int) * (if decide ((0 : Int) < 8 * ((n1.map nI).length : Int)) = true then 1 else 0)) := hj
            rw [e0] at hj
            exact absurd hj (by show ¬ j < 0; omega)
        have hj6 : j < 6 := by
          have hj : j < Int.toNat ((6 : Int) * (if decide ((0 : Int) < 8 * ((n1.map nI).length : Int)) = true then 1 else 0)) := hj
          split at hj <;> simp at hj <;> omega
        have q1 := T7.s1
        -- first
        refine ⟨_, rfl, _, rfl, p, c, _, _, rfl, T7.pen, by omega, by omega, by omega, fun v o v0 v1 HP8 => ?_⟩
        have hl1 := T7.pen.lst (o := o) T7.h1
        have hl2 := T7.pen.lst (o := o) T7.h2
        have T8 : Two (upd G7 p o) p c l1 l2 n1 n2 (1000 * i + 50 + 100 * j + 1) := ⟨HP8, hl1, hl2, T7.b1, T7.b2, T7.s1, T7.s2⟩
        generalize upd G7 p o = G8 at *
        obtain ⟨f, rfl⟩ : ∃ f : Nat, v = (f : Int) := ⟨v.toNat, by omega⟩
        have hf : f < 8 * n1.length := by omega
        -- more
        refine ⟨fun σ G => ∃ (l : Addr) (ks : List Nat), σ = [some (.ref a), some (.ref p), some (.int (0 + (i : Int))), some (.ref l1), some (.ref l2), some (nI (ck n1)), some (nI (ck n2)), some (nI (ck (n1 ++ n2))), some (nI (8 * n1.length)), some (.int (0 + (j : Int))), some (nI f), some (.ref l), x12, none] ∧ Two G p c l1 l2 n1 n2 (1000 * i + 50 + 100 * j + 50) ∧ G l = some (.lst (ks.map nI)) ∧ ks.length ≤ 40 ∧ ∀ k ∈ ks, f < k ∧ k < f + 32 ∧ k < 8 * n1.length, ?_, ?_⟩
        · refine ⟨_, rfl, _, _, rfl, rfl, _, rfl, _, rfl, _, _, rfl, rfl, _, _, rfl, _, _, rfl, ?_, fun D hD => ?_⟩
          · show -(2 ^ 62) ≤ (f : Int) + 1 ∧ (f : Int) + 1 < 2 ^ 62 ∧ -(2 ^ 62) ≤ (if (f : Int) + 32 < ((8 * n1.length : Nat) : Int) then (f : Int) + 32 else ((8 * n1.length : Nat) : Int)) ∧ (if (f : Int) + 32 < ((8 * n1.length : Nat) : Int) then (f : Int) + 32 else ((8 * n1.length : Nat) : Int)) < 2 ^ 62
            split <;> omega
          have npD : p ≠ D := ne_of_none T8.pen.dict.choose_spec hD
          have ncD : c ≠ D := ne_of_none T8.pen.cells.choose_spec hD
          have n1D : l1 ≠ D := ne_of_none T8.h1 hD
          have n2D : l2 ≠ D := ne_of_none T8.h2 hD
          have up : ∀ {G : Hp} {m : Nat} {o : HO}, Two G p c l1 l2 n1 n2 m → Two (upd G D o) p c l1 l2 n1 n2 m := fun T => ⟨T.pen.put npD ncD, by rw [upd_ne n1D]; exact T.h1, by rw [upd_ne n2D]; exact T.h2, T.b1, T.b2, T.s1, T.s2⟩
          refine lc_range (lo := (f : Int) + 1) (n := ((if (f : Int) + 32 < ((8 * n1.length : Nat) : Int) then (f : Int) + 32 else ((8 * n1.length : Nat) : Int)) - ((f : Int) + 1)).toNat) (fun j' G => ∃ ks : List Nat, G D = some (.lst (ks.map nI)) ∧ ks.length ≤ j' ∧ (∀ k ∈ ks, f < k ∧ k < f + 32 ∧ k < 8 * n1.length) ∧ Two G p c l1 l2 n1 n2 (1000 * i + 50 + 100 * j + 1 + j'))
            ⟨[], upd_same, Nat.zero_le _, (fun n h => by cases h), up T8⟩ ?_ ?_
          · rintro j' G hj' ⟨ks, hD2, hl, hk, T9⟩
            have hj2 : j' < 31 ∧ f + 1 + j' < 8 * n1.length := by split at hj' <;> omega
            refine ⟨rfl, ?_⟩
            refine ⟨_, rfl, p, c, _, _, rfl, T9.pen, by omega, by decide, by decide, fun v' o' w0 w1 HP3 => ?_⟩
            have T10 : Two (upd G p o') p c l1 l2 n1 n2 (1000 * i + 50 + 100 * j + 1 + j' + 1) := ⟨HP3, T9.pen.lst T9.h1, T9.pen.lst T9.h2, T9.b1, T9.b2, T9.s1, T9.s2⟩
            have hD3 := T9.pen.lst (o := o') hD2
            refine ⟨rfl, _, rfl, ?_⟩
            refine ite2 (fun _ => ?_) (fun _ => ?_)
            · have ev : V.int ((f : Int) + 1 + (j' : Int)) = nI (f + 1 + j') := congrArg V.int (by omega)
              refine ⟨_, rfl, _, hD3, ?_, ks ++ [f + 1 + j'], ?_, ?_, ?_, up T10⟩
              · rw [List.length_map]
                exact small1000 (by omega)
              · rw [upd_same, List.map_append, ev]
                rfl
              · rw [List.length_append]
                show ks.length + 1 ≤ j' + 1
                omega
              · intro n hn
                rcases List.mem_append.mp hn with h | h
                · exact hk n h
                · rw [List.mem_singleton.mp h]
                  omega
            · exact ⟨ks, hD3, by omega, hk, T10⟩
          · rintro G ⟨ks, hD2, hl, hk, T9⟩
            have e31 : ((if (f : Int) + 32 < ((8 * n1.length : Nat) : Int) then (f : Int) + 32 else ((8 * n1.length : Nat) : Int)) - ((f : Int) + 1)).toNat ≤ 31 := by split <;> omega
            exact ⟨D, ks, rfl, ⟨T9.pen.mono (by omega), T9.h1, T9.h2, T9.b1, T9.b2, T9.s1, T9.s2⟩, hD2, by omega, hk⟩
        rintro σ G9 ⟨l, ks, rfl, T9, hl9, hk9, hks⟩
        have pl : ∀ ks' : List Nat, (∀ k ∈ ks', f < k ∧ k < f + 32 ∧ k < 8 * n1.length) → ∀ k ∈ f :: ks', k < 8 * n1.length := by
          intro ks' hk2 k hk
          rcases List.mem_cons.mp hk with h | h
          · rw [h]
            exact hf
          · exact (hk2 k h).2.2
        refine ⟨_, rfl, _, rfl, by show 1 ≤ sizeLine; decide, fun lf hlf => ?_⟩
        have sf : Same G9 (upd G9 lf (.lst [nI f])) := Same.new hlf
        refine ⟨_, rfl, _, _, rfl, rfl, _, rfl, ?_⟩
        refine ite2 (fun _ => ?_) (fun _ => ?_)
        · refine ⟨_, rfl, lf, l, _, _, rfl, rfl, upd_same, sf _ _ hl9, ?_, fun q hq => ?_⟩
          · rw [List.length_map, sizeLine_eq]
            show 1 + _ ≤ _
            omega
          have sq := sf.trans (Same.new (o := .lst ([nI f] ++ ks.map nI)) hq)
          refine ⟨l1, q, n1, f :: ks, rfl, .inl (.inl (sq _ _ T9.h1)), .inl (.inl upd_same), T9.b1, pl ks hks, fun q' H' ns' hq' sm2 h' hlen hb' hbit => ?_⟩
          have hne : ck ns' ≠ ck n1 := Crc.ck_ne hlen hbit hf fun z hz => ⟨(hks z hz).1, (hks z hz).2.1⟩
          have sm' := sq.trans sm2
          refine ⟨_, rfl, q', _, rfl, .inl ⟨.inl (.inl h'), fun t ht => ⟨t, ns', rfl, .inl (.inl upd_same), hb', _, rfl, rfl, _, rfl, ?_⟩⟩⟩
          refine ite2 (fun h => absurd (Int.ofNat_inj.mp (V.int.inj (of_decide_eq_true h))) hne) (fun _ => ?_)
          have T11 := T9.same (sm'.trans (Same.new (o := .tup (ns'.map nI)) ht))
          exact ⟨_, _, _, _, rfl, ⟨T11.pen.mono (by omega), T11.h1, T11.h2, T11.b1, T11.b2, T11.s1, T11.s2⟩⟩
        · refine ⟨_, rfl, _, rfl, _, rfl, l, _, rfl, .inl (.inl (sf _ _ hl9)), fun r hr => ?_⟩
          obtain ⟨n', ecut⟩ : ∃ n', cutV (ks.map nI) none (some (0 + (j : Int))) = (ks.take n').map nI := by
            unfold cutV
            exact ⟨_, by rw [List.map_take]; rfl⟩
          rw [ecut]
          have sr : Same (upd G9 lf (.lst [nI f])) (upd (upd G9 lf (.lst [nI f])) r (.lst ((ks.take n').map nI))) := Same.new hr
          have lt : (ks.take n').length ≤ 40 := by rw [List.length_take]; omega
          refine ⟨lf, r, _, _, rfl, rfl, sr _ _ upd_same, upd_same, ?_, fun q hq => ?_⟩
          · rw [List.length_map, sizeLine_eq]
            show 1 + _ ≤ _
            omega
          have sq := sf.trans (sr.trans (Same.new (o := .lst ([nI f] ++ (ks.take n').map nI)) hq))
          have hks' : ∀ k ∈ ks.take n', f < k ∧ k < f + 32 ∧ k < 8 * n1.length := fun k hk => hks k (List.mem_of_mem_take hk)
          refine ⟨l1, q, n1, f :: ks.take n', rfl, .inl (.inl (sq _ _ T9.h1)), .inl (.inl upd_same), T9.b1, pl _ hks', fun q' H' ns' hq' sm2 h' hlen hb' hbit => ?_⟩
          have hne : ck ns' ≠ ck n1 := Crc.ck_ne hlen hbit hf fun z hz => ⟨(hks' z hz).1, (hks' z hz).2.1⟩
          have sm' := sq.trans sm2
          refine ⟨_, rfl, q', _, rfl, .inl ⟨.inl (.inl h'), fun t ht => ⟨t, ns', rfl, .inl (.inl upd_same), hb', _, rfl, rfl, _, rfl, ?_⟩⟩⟩
          refine ite2 (fun h => absurd (Int.ofNat_inj.mp (V.int.inj (of_decide_eq_true h))) hne) (fun _ => ?_)
          have T11 := T9.same (sm'.trans (Same.new (o := .tup (ns'.map nI)) ht))
          exact ⟨_, _, _, _, rfl, ⟨T11.pen.mono (by omega), T11.h1, T11.h2, T11.b1, T11.b2, T11.s1, T11.s2⟩⟩
      · rintro σ G ⟨x9, x10, x11, x12, rfl, T7⟩
        have e6 : Int.toNat ((6 : Int) * (if decide ((0 : Int) < 8 * ((n1.map nI).length : Int)) = true then 1 else 0)) ≤ 6 := by split <;> decide
        refine ⟨_, _, _, _, _, _, _, _, _, _, _, rfl, T7.pen.mono ?_⟩
        have e7 : ∀ z, z ≤ 6 → 1000 * i + 50 + 100 * z ≤ 1000 * (i + 1) := fun z hz => by omega
        exact e7 _ e6
    · rintro σ G ⟨x2, x3, x4, x5, x6, x7, x8, x9, x10, x11, x12, rfl, _⟩
      exact k G
end
end Wq

set_option Elab.async false
set_option linter.all false
set_option maxRecDepth 100000
set_option maxHeartbeats 2000000
namespace Wq
open PySem PySem.Spec PyProof.Rows L2
theorem all_mk {l : PySem.W.OpenLaw} {w : World} {K : PySem.W.Frag} {h : Heap} {mg : Str → Option Value} {fa : Addr} (X : K.In h) (G : h.Ns mainGlobals mg) (hfa : mg "law" = some (.ref fa))
    (d5 : DefAt K mg "check_of" sCheck) (d6 : DefAt K mg "joined_check" sJoined) (d7 : DefAt K mg "power_of_byte" sPower) (d8 : DefAt K mg "product_of" sProduct)
    (d10 : DefAt K mg "_law_pen" sPen) (d11 : DefAt K mg "_law_draw" sDraw) (d12 : DefAt K mg "_law_pick" sPick) (d13 : DefAt K mg "_law_bits" sBits) (d14 : DefAt K mg "_law_check" sLCheck) (d15 : DefAt K mg "_law_turned" sTurned) (d16 : DefAt K mg "law" sLaw)
    {t1 t2 t3 t4 : Tok}
    (c1 : PySem.W.nsIn K mainGlobals "DIVISOR" = some (some (.int 141 t1))) (c2 : PySem.W.nsIn K mainGlobals "LOW_BITS" = some (some (.int 16777215 t2))) (c3 : PySem.W.nsIn K mainGlobals "TOP_BIT" = some (some (.int 2147483648 t3))) (c4 : PySem.W.nsIn K mainGlobals "ALL_BITS" = some (some (.int 4294967295 t4)))
    (z1 : PySem.W.nsIn K mainGlobals "len" = some none) (z2 : PySem.W.nsIn K mainGlobals "int" = some none) (z3 : PySem.W.nsIn K mainGlobals "list" = some none) (z4 : PySem.W.nsIn K mainGlobals "range" = some none) (z5 : PySem.W.nsIn K mainGlobals "tuple" = some none) (z6 : PySem.W.nsIn K mainGlobals "min" = some none) :
    ∃ fd : FuncData, (∀ (s : Shared) (v : Value), BindsTo s fd ⟨[v], []⟩ [("_law_script", v)]) ∧ ∀ base : Heap, K.In base → base.Ns mainGlobals mg → FnOk l.prog w K mg base CX0 4 fa fd ["_law_script"] (spLaw K) := by
  have T : Txt K mg := ⟨PySem.W.mg_none_of X G z1, PySem.W.mg_none_of X G z2, PySem.W.mg_none_of X G z3, PySem.W.mg_none_of X G z4, PySem.W.mg_none_of X G z5, PySem.W.mg_none_of X G z6⟩
  have TP : TxtP K mg := ⟨⟨_, PySem.W.mg_of X G c1⟩, ⟨_, PySem.W.mg_of X G c2⟩, ⟨_, PySem.W.mg_of X G c3⟩, ⟨_, PySem.W.mg_of X G c4⟩⟩
  obtain ⟨f, fd, F, hm⟩ := d16.ex
  have e := hfa.symm.trans hm
  cases e
  obtain ⟨oc, od, kV, doc, pm, an, cdv, ct, osl, rfl, lk, hcd⟩ := F.ex
  refine ⟨PySem.W.fnOf "law" "law" (defArgs sLaw) (defBody sLaw) (defScope sLaw) .none kV doc pm an cdv ct, fun s v => .of_eq rfl, fun base _ _ => ?_⟩
  have CP := ok_product (P := l.prog) (w := w) (base := base) d8 TP
  have CB := ok_bits (P := l.prog) (w := w) (base := base) d13 T
  have CD := ok_draw (P := l.prog) (w := w) (base := base) d11 T
  have C : Cls3 l.prog w K mg base := ⟨ok_pen d10 T, CD, ok_pick d12 T CD, ok_check d5 TP, ok_joined d6 TP CP (ok_power d7 CP), ok_lcheck d14 T CB, ok_turned d15 T⟩
  exact ok_law F T C
theorem walk {l : PySem.W.OpenLaw} {q : Program} {loose : List Str} {XP : (Str → Option Value) → Heap → Prop} {YP : World → Heap → Prop} {d : DefRec} {K : Params → PySem.W.Frag} (hn : l.most = some 63) (hdf : d.params.defaults = [])
    (hY : ∀ (w : World) (h : Heap), YP w h → (K w.params).In h)
    (F : ∀ (w : World) (mg : Str → Option Value) (fa : Addr) (h : Heap), (K w.params).In h → h.Ns mainGlobals mg → mg d.name = some (.ref fa) →
      ∃ fd : FuncData, (∀ (s : Shared) (u : Value), BindsTo s fd ⟨[u], []⟩ [("_law_script", u)]) ∧ ∀ base : Heap, (K w.params).In base → base.Ns mainGlobals mg → FnOk l.prog w (K w.params) mg base CX0 4 fa fd ["_law_script"] (spLaw (K w.params))) :
    PySem.W.WalkO q loose XP YP l.row.toRowW d [] (fun f vs => PySem.call f vs) :=
  L2.walk_of (n := 63) (k := 4) (x := "_law_script") (CX := fun _ => CX0) (sp := fun w => spLaw (K w.params)) hn (by decide) hdf ⟨rfl, by decide, by decide⟩ hY F (fun _ _ a ns hl _ hS => ⟨a, ns, rfl, hS, fun _ => rfl⟩) fun _ _ _ _ _ z => z
end Wq
open PySem PySem.W PyProof.Rows
set_option maxRecDepth 100000 in
set_option maxHeartbeats 0 in
theorem PySem.Challenge.cw_wordquarry_k03_check_sums_holds : PySem.Challenge.rw_wordquarry_k03_check_sums.Holds := by
  w_on; o_law; k_head; (case hw => w_witness2)
  k_fill
  refine Wq.walk (l := PySem.Challenge.rw_wordquarry_k03_check_sums) rfl rfl (fun w h Y => PySem.W.kIn_of Y) ?F
  case F =>
    intro w mg fa h KX G hmg
    refine' Wq.all_mk KX G hmg ?d5 ?d6 ?d7 ?d8 ?d10 ?d11 ?d12 ?d13 ?d14 ?d15 ?d16 ?c1 ?c2 ?c3 ?c4 ?z1 ?z2 ?z3 ?z4 ?z5 ?z6
    (case d5 => (refine' Wq.def_mk KX G ?a ?l ?c ?k; (case a => k_is); (case l => k_is); (case c => k_is); (case k => k_is)))
    (case d6 => (refine' Wq.def_mk KX G ?a ?l ?c ?k; (case a => k_is); (case l => k_is); (case c => k_is); (case k => k_is)))
    (case d7 => (refine' Wq.def_mk KX G ?a ?l ?c ?k; (case a => k_is); (case l => k_is); (case c => k_is); (case k => k_is)))
    (case d8 => (refine' Wq.def_mk KX G ?a ?l ?c ?k; (case a => k_is); (case l => k_is); (case c => k_is); (case k => k_is)))
    (case d10 => (refine' Wq.def_mk KX G ?a ?l ?c ?k; (case a => k_is); (case l => k_is); (case c => k_is); (case k => k_is)))
    (case d11 => (refine' Wq.def_mk KX G ?a ?l ?c ?k; (case a => k_is); (case l => k_is); (case c => k_is); (case k => k_is)))
    (case d12 => (refine' Wq.def_mk KX G ?a ?l ?c ?k; (case a => k_is); (case l => k_is); (case c => k_is); (case k => k_is)))
    (case d13 => (refine' Wq.def_mk KX G ?a ?l ?c ?k; (case a => k_is); (case l => k_is); (case c => k_is); (case k => k_is)))
    (case d14 => (refine' Wq.def_mk KX G ?a ?l ?c ?k; (case a => k_is); (case l => k_is); (case c => k_is); (case k => k_is)))
    (case d15 => (refine' Wq.def_mk KX G ?a ?l ?c ?k; (case a => k_is); (case l => k_is); (case c => k_is); (case k => k_is)))
    (case d16 => (refine' Wq.def_mk KX G ?a ?l ?c ?k; (case a => k_is); (case l => k_is); (case c => k_is); (case k => k_is)))
    (case c1 => k_is); (case c2 => k_is); (case c3 => k_is); (case c4 => k_is)
    (case z1 => k_is); (case z2 => k_is); (case z3 => k_is); (case z4 => k_is); (case z5 => k_is); (case z6 => k_is)

