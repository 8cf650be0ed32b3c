import PyProof.Rows.All
import Wide.All
import OpenK.AllK
import Wide.FinOn
import HandS.Base
import HandS.Call
import HandS.List
import HandS.Comp
import HandS.Ends
import HandS.Dict
import HandS.Iter
import HandS.Text
import HandS.Words
import HandS.WordsList
import HandS.Codes
import HandS.Style
import HandS.Wide
import HandS.Set
import HandS.Strs
import HandS.SetBool
import HandS.SetTxtIn
import PyProof.FactsAll.set_2
import HandS.ExcInit
import HandS.ExcField
import HandS.ExcIs
import HandS.ExcValue
import HandS.ExcOwn
import HandS.IsInst
import KE.KExcIs
import HandS.DictComp
import HandS.NoneIn
import HandS.SetFor
import HandS.AnyAll
import HandS.Deep
import KE.SortData
import KE.SortLaws
import HandS.SetKeys
import HandS.TryOnly
import HandS.WordsExc
import HandS.TupAny
import HandS.Walk
import HandS.Exc
import HandS.TryMany
import PyProof.Rows.StrMeet
import PySem.Challenge.RW_wordquarry_k85_whole_sure_kinds
set_option Elab.async false
set_option linter.all false
set_option maxRecDepth 100000
set_option maxHeartbeats 2000000
namespace Wq
open PySem PySem.Spec PyProof.Rows L2
def top (i : Nat) : Stmt := PySem.Challenge.pw_wordquarry_k85_whole_sure_kinds.main.body.getD i (.Pass ⟨0, 0, 0, 0⟩)
/-! callables by name -/
structure Cl (P : Program) (w : World) (K : PySem.W.Frag) (mg : Str → Option Value) (base : Heap) (k : Nat) (x : Str) (sp : Sp) : Prop where
  ex : ∃ (f : Addr) (fd : FuncData) (ps : List Str), FnOk P w K mg base CX0 k f fd ps sp ∧ mg x = some (.ref f) ∧ PySem.W.keepIn K (.ref f) = true ∧ Binds K fd ps []
structure DefAt (K : PySem.W.Frag) (mg : Str → Option Value) (x : Str) (st : Stmt) : Prop where
  ex : ∃ (f : Addr) (fd : FuncData), Fun K x x st f fd ∧ mg x = some (.ref f)
theorem def_mk {h : Heap} {mg : Str → Option Value} {K : PySem.W.Frag} {x : Str} {st : Stmt} {f : Addr} {oc : Value} {od an : Option Addr} {osl : Array (Option Value)} {kV doc pm cdv ct : Value} (X : K.In h) (G : h.Ns mainGlobals mg)
    (a : PySem.W.nsIn K mainGlobals x = some (some (.ref f))) (l : K.lookup f = some ⟨oc, od, .func (PySem.W.fnOf x x (defArgs st) (defBody st) (defScope st) .none kV doc pm an cdv ct), osl⟩)
    (c : PySem.W.codeIn K cdv x = true) (k : PySem.W.keepIn K (.ref f) = true) : DefAt K mg x st := ⟨f, _, fun_mk l c k, PySem.W.mg_of X G a⟩
section
variable {X : Cx} {k j : Nat} {x : Str} {sp : Sp} {p pos : Pos} {e : Expr} {es : List Expr} {t : TA}
theorem pe_cl (c : Cl X.prog X.w X.K X.mg X.base k x sp) (hr : Room j X.A) (hk : k ≤ j) (hg : Gl X x) (ha : PA X (e :: es) t)
    (hdb : (x == ("__debug__" : Str)) = false := by decide) (he : starEach (e :: es) X.env = (false, eval e X.env) :: starEach es X.env := by rfl) (hpl : (backTo pos (starEach es X.env)).any (·.1) = false := by rfl) :
    PE X (.Call (.Name x p) (e :: es) [] pos) (tCall sp [] E0 t) := by
  obtain ⟨f, fd, ps, F, hm, kp, b⟩ := c.ex
  exact pe_call F (hr.mono hk) hg hm kp b .nil pass0 ha hdb he hpl
end
section
variable {P : Program} {w : World} {K : PySem.W.Frag} {mg : Str → Option Value} {base : Heap}
theorem cl_of {x : Str} {st : Stmt} {N ps : List Str} {k : Nat} {sp : Sp} (D : DefAt K mg x st) (S : FnScope N ps (defScope st)) (len : ∀ vs H Q E, sp vs H Q E → vs.length = ps.length)
    (hb : ∀ (kV doc pm : Value) (an : Option Addr) (cdv ct : Value) (us : List Value), us.length = ps.length → bindArgs (PySem.W.fnOf x x (defArgs st) (defBody st) (defScope st) .none kV doc pm an cdv ct) ⟨us, []⟩ = pure (ps.zip us))
    (hbody : ∀ (f : Addr) (cdv : Value) (A : Around) (outer : List Env) (s : Shared) (H : Hp) (vs : List V) (Q : VK) (E : XK), Room k (A.deeper (envOfC x (defScope st) s.heap.objs.size f cdv)) → sp vs H Q E →
      ∃ t, PSs (cxOf CX0 P w K mg base N x (defScope st) f cdv A outer s H E).nox (defBody st) t ∧ t { nx := fun _ H' => Q .non H', rt := Q } (start N vs) H) : Cl P w K mg base (k + 1) x sp := by
  obtain ⟨f, fd, F, hm⟩ := D.ex
  exact ⟨f, fd, ps, F.ok S len (hbody f), hm, F.kp, F.binds hb⟩
/-! what the law's own words want of the top -/
structure Txt (K : PySem.W.Frag) (mg : Str → Option Value) : Prop where
  len : mg "len" = none
  int : mg "int" = none
  list : mg "list" = none
  range : mg "range" = none
  tuple : mg "tuple" = none
  min : mg "min" = none
/-! the pen -/
abbrev kv (s : Str) (v : V) : Key × V := (Sum.inr s, v)
def penD (c : Addr) (i d n f : Int) : List (Key × V) := [kv "cells" (.ref c), kv "at" (.int i), kv "digits" (.int d), kv "count" (.int n), kv "fold" (.int f)]
structure PenAt (H : Hp) (p c : Addr) (m : Nat) : Prop where
  ex : ∃ (ns : List Int) (i d f : Int) (n : Nat), H p = some (.dK (penD c i d n f)) ∧ H c = some (.lst (ns.map V.int)) ∧ 0 ≤ i ∧ 0 ≤ d ∧ n ≤ m ∧ 0 ≤ f ∧ f < 2147483587
theorem SqL_upd {H : Hp} {p c : Addr} {xs : List V} {kvs : List (Key × V)} {o : HO} (h : SqL K H c xs) (hp : H p = some (.dK kvs)) : SqL K (upd H p o) c xs := by
  rcases h with (h | ⟨u, h⟩) | h
  · refine .inl (.inl ?_)
    rw [upd_ne (ne_of h hp (by intro z; cases z))]
    exact h
  · refine .inl (.inr ⟨u, ?_⟩)
    rw [upd_ne (ne_of h hp (by intro z; cases z))]
    exact h
  · exact .inr h
section
variable {H : Hp} {p c : Addr} {i d n f x : Int}
theorem g_cells (h : H p = some (.dK (penD c i d n f))) : DGet H p (.str "cells") (some (.ref c)) := DGet.k (k := Sum.inr "cells") h
theorem g_at (h : H p = some (.dK (penD c i d n f))) : DGet H p (.str "at") (some (.int i)) := DGet.k (k := Sum.inr "at") h
theorem g_digits (h : H p = some (.dK (penD c i d n f))) : DGet H p (.str "digits") (some (.int d)) := DGet.k (k := Sum.inr "digits") h
theorem g_count (h : H p = some (.dK (penD c i d n f))) : DGet H p (.str "count") (some (.int n)) := DGet.k (k := Sum.inr "count") h
theorem g_fold (h : H p = some (.dK (penD c i d n f))) : DGet H p (.str "fold") (some (.int f)) := DGet.k (k := Sum.inr "fold") h
theorem p_count (h : H p = some (.dK (penD c i d n f))) : DPut H p (.str "count") (.int x) (upd H p (.dK (penD c i d x f))) := DPut.k (k := Sum.inr "count") h (by show 5 < sizeLine; decide)
theorem p_at : DPut (upd H p (.dK (penD c i d n f))) p (.str "at") (.int x) (upd H p (.dK (penD c x d n f))) := by
  have e := DPut.k (k := Sum.inr "at") (v := .int x) (upd_same (H := H) (a := p) (o := .dK (penD c i d n f))) (by show 5 < sizeLine; decide)
  rw [upd_upd] at e
  exact e
theorem p_digits : DPut (upd H p (.dK (penD c i d n f))) p (.str "digits") (.int x) (upd H p (.dK (penD c i x n f))) := by
  have e := DPut.k (k := Sum.inr "digits") (v := .int x) (upd_same (H := H) (a := p) (o := .dK (penD c i d n f))) (by show 5 < sizeLine; decide)
  rw [upd_upd] at e
  exact e
theorem p_fold : DPut (upd H p (.dK (penD c i d n f))) p (.str "fold") (.int x) (upd H p (.dK (penD c i d n x))) := by
  have e := DPut.k (k := Sum.inr "fold") (v := .int x) (upd_same (H := H) (a := p) (o := .dK (penD c i d n f))) (by show 5 < sizeLine; decide)
  rw [upd_upd] at e
  exact e
end
theorem PenAt.mono {H : Hp} {p c : Addr} {m m' : Nat} (h : PenAt H p c m) (hm : m ≤ m') : PenAt H p c m' := by
  obtain ⟨ns, i, d, f, n, h1, h2, h3, h4, h5, h6, h7⟩ := h.ex
  exact ⟨ns, i, d, f, n, h1, h2, h3, h4, by omega, h6, h7⟩
theorem PenAt.same {H H' : Hp} {p c : Addr} {m : Nat} (h : PenAt H p c m) (s : Same H H') : PenAt H' p c m := by
  obtain ⟨ns, i, d, f, n, h1, h2, h3⟩ := h.ex
  exact ⟨ns, i, d, f, n, s _ _ h1, s _ _ h2, h3⟩
theorem PenAt.dict {H : Hp} {p c : Addr} {m : Nat} (h : PenAt H p c m) : ∃ kvs, H p = some (.dK kvs) := by
  obtain ⟨ns, i, d, f, n, h1, _⟩ := h.ex
  exact ⟨_, h1⟩
theorem PenAt.cells {H : Hp} {p c : Addr} {m : Nat} (h : PenAt H p c m) : ∃ xs, H c = some (.lst xs) := by
  obtain ⟨ns, i, d, f, n, h1, h2, _⟩ := h.ex
  exact ⟨_, h2⟩
theorem PenAt.put {H : Hp} {p c l : Addr} {m : Nat} {o : HO} (h : PenAt H p c m) (hp : p ≠ l) (hc : c ≠ l) : PenAt (upd H l o) p c m := by
  obtain ⟨ns, i, d, f, n, h1, h2, h3⟩ := h.ex
  exact ⟨ns, i, d, f, n, by rw [upd_ne hp]; exact h1, by rw [upd_ne hc]; exact h2, h3⟩
theorem PenAt.ne {H : Hp} {p c l : Addr} {m : Nat} {o : HO} (h : PenAt H p c m) (hl : H l = some o) (ho : ∀ kvs, o ≠ .dK kvs) : l ≠ p := by
  obtain ⟨kvs, hk⟩ := h.dict
  exact ne_of hl hk (ho kvs)
/-- the pen moved on: lists stay -/
theorem PenAt.lst {H : Hp} {p c l : Addr} {m : Nat} {xs : List V} {o : HO} (h : PenAt H p c m) (hl : H l = some (.lst xs)) : upd H p o l = some (.lst xs) := by
  rw [upd_ne (h.ne hl (by intro kvs z; cases z))]
  exact hl
abbrev sPen : Stmt := top 16
abbrev sDraw : Stmt := top 17
abbrev sPick : Stmt := top 18
def spPen (K : PySem.W.Frag) : Sp := fun vs H Q _ => ∃ (a : Addr) (ns : List Int), vs = [.ref a] ∧ SqL K H a (ns.map V.int) ∧ ∀ p c H', H p = none → Same H H' → PenAt H' p c 0 → Q (.ref p) H'
def spDraw (K : PySem.W.Frag) : Sp := fun vs H Q _ => ∃ (p c : Addr) (m : Nat) (many : Int), vs = [.ref p, .int many] ∧ PenAt H p c m ∧ m < 1099511627776 ∧ 0 < many ∧ many.natAbs.log2 < 9000 ∧
  ∀ (v : Int) (o : HO), 0 ≤ v → v < many → PenAt (upd H p o) p c (m + 1) → Q (.int v) (upd H p o)
/-- what may be picked from: a list, a tuple, a text -/
inductive Some (K : PySem.W.Frag) (H : Hp) : V → List V → Prop
  | lst {l xs} : SqL K H l xs → Some K H (.ref l) xs
  | tup {l xs} : SqT K H l xs → Some K H (.ref l) xs
  | str {z} : z.length ≤ sizeLine → Some K H (.str z) (z.cps.toList.map fun c => V.str ⟨#[c]⟩)
def spPick (K : PySem.W.Frag) : Sp := fun vs H Q _ => ∃ (p c : Addr) (m : Nat) (u : V) (xs : List V), vs = [.ref p, u] ∧ PenAt H p c m ∧ Some K H u xs ∧ m < 1099511627776 ∧ 0 < xs.length ∧ xs.length < 1073741824 ∧
  ∀ (i : Nat) (v : V) (o : HO), xs[i]? = some v → PenAt (upd H p o) p c (m + 1) → Q v (upd H p o)
theorem scPen : FnScope ["_law_script", "_law_fold", "_law_cell"] ["_law_script"] (defScope sPen) := ⟨rfl, rfl, rfl, by decide +kernel, rfl, by decide +kernel, by decide +kernel⟩
theorem scDraw : FnScope ["_law_pen_here", "_law_many", "_law_cell", "_law_digit", "_law_mixed"] ["_law_pen_here", "_law_many"] (defScope sDraw) := ⟨rfl, rfl, rfl, by decide +kernel, rfl, by decide +kernel, by decide +kernel⟩
theorem scPick : FnScope ["_law_pen_here", "_law_some"] ["_law_pen_here", "_law_some"] (defScope sPick) := ⟨rfl, rfl, rfl, by decide +kernel, rfl, by decide +kernel, by decide +kernel⟩
theorem ints_at {ns : List Int} {i : Nat} {y : V} (hi : (ns.map V.int)[i]? = some y) : ∃ z, y = V.int z := by
  rw [List.getElem?_map] at hi
  cases e : ns[i]? with
  | none =>
    rw [e] at hi
    cases hi
  | some z =>
    rw [e] at hi
    exact ⟨z, (Option.some.inj hi).symm⟩
theorem ok_pen (D : DefAt K mg "_law_pen" sPen) (T : Txt K mg) : Cl P w K mg base 1 "_law_pen" (spPen K) := by
  refine cl_of D scPen (fun vs H Q E h => ?_) (fun _ _ _ _ _ _ us hl => match us, hl with | [_], _ => rfl) (fun f cdv A outer s H vs Q E hr h => ?_)
  · obtain ⟨a, ns, rfl, _⟩ := h
    rfl
  · obtain ⟨a, ns, rfl, hS, k⟩ := h
    refine ⟨_, pss_cons (ps_set (i := 1) scPen.nd rfl (Or.inl rfl) pe_int)
      (pss_cons (ps_for PassesOwn.never rfl (pi_list (pv 0)) (pg_name (i := 2) scPen.nd rfl (Or.inl rfl))
        (pss_one (ps_set (i := 1) scPen.nd rfl (Or.inl rfl) (pe_op op_mod (pe_callTy call_int1 (by rfl) (by exact T.int) PyProof.Rows.boot_int (pa_cons (pe_op op_add (pe_op op_mul (pv 1) pe_int) (pv 2)) pa_nil)) pe_int))))
      (pss_one (ps_ret (pe_disp (pps_cons pe_str (pe_callTy call_list_of (by rfl) (by exact T.list) (by decide +kernel) (pa_cons (pv 0) pa_nil)) (pps_cons pe_str pe_int (pps_cons pe_str pe_int (pps_cons pe_str pe_int (pps_cons pe_str (pv 1) pps_nil))))) (by rfl) (by rfl) (fun z => by cases z) (by decide))))), ?_⟩
    refine ⟨_, rfl, a, rfl, ⟨_, hS⟩, for_list (K := K) (a := a) (xs := ns.map V.int) (fun i σ H' => ∃ (n : Int) (v : Option V), σ = [some (.ref a), some (.int n), v] ∧ H' = H ∧ 0 ≤ n ∧ n < 1000000007)
      ⟨0, none, rfl, rfl, by decide, by decide⟩ (fun i σ H' _ ⟨_, _, _, e, _, _⟩ => by rw [e]; exact hS) ?_ ?_⟩
    · rintro i y σ H' hi ⟨n, v, rfl, rfl, h0, h1⟩
      obtain ⟨z, rfl⟩ := ints_at hi
      refine ⟨_, rfl, _, _, rfl, rfl, .inl ⟨by omega, by omega⟩, _, rfl, _, _, rfl, rfl, .inl ⟨_, rfl, _, _, rfl, rfl, (by show (0 : Int) < 1000000007; decide), ?_⟩⟩
      exact ⟨(n * 41 + z) % 1000000007, _, rfl, rfl, Int.emod_nonneg _ (by decide), Int.emod_lt_of_pos _ (by decide)⟩
    · rintro σ H' ⟨n, v, rfl, rfl, h0, h1⟩
      intro p hp
      have s1 : Same H' (upd H' p (.dK [])) := fun b o e => by rw [upd_ne (ne_of_none e hp)]; exact e
      refine ⟨_, rfl, a, _, rfl, .inl (s1.seq hS), fun l hl => ?_⟩
      have npl : p ≠ l := ne_of_none upd_same hl
      have s2 : Same H' (upd (upd (upd H' p (.dK [])) l (.lst (ns.map V.int))) p (.dK (mergeK [] (penD l 0 0 0 n)))) := fun b o e => by
        rw [upd_ne (ne_of_none e hp), upd_ne (ne_of_none (s1 b o e) hl)]
        exact s1 b o e
      refine ⟨_, rfl, by rw [upd_ne npl, upd_same], penD l 0 0 0 n, rfl, (by show 5 ≤ 15; decide), ?_⟩
      refine k p l _ hp s2 ⟨ns, 0, 0, n, 0, upd_same, ?_, by decide, by decide, by decide, h0, by omega⟩
      rw [upd_ne npl.symm, upd_same]
theorem ok_draw (D : DefAt K mg "_law_draw" sDraw) (T : Txt K mg) : Cl P w K mg base 1 "_law_draw" (spDraw K) := by
  refine cl_of D scDraw (fun vs H Q E h => ?_) (fun _ _ _ _ _ _ us hl => match us, hl with | [_, _], _ => rfl) (fun f cdv A outer s H vs Q E hr h => ?_)
  · obtain ⟨p, c, m, many, rfl, _⟩ := h
    rfl
  · obtain ⟨p, c, m, many, rfl, HP, hm, m0, m1, k⟩ := h
    obtain ⟨ns, i, d, f, n, hH, hc, hi, hd, hn, hf0, hf1⟩ := HP.ex
    have hu := hu_of hr
    refine ⟨_, pss_cons (ps_dput hu (pv 0) pe_str (pe_op op_add (pe_dget hu (pv 0) pe_str (fun _ _ => rfl)) pe_int) rfl)
      (C8.pss_cut (ps_if (PW.pt (pw_and (pt_cmpR op_eq (pe_dget hu (pv 0) pe_str (fun _ _ => rfl)) pe_int (nomark _)) (pw_and1 (pt_cmpR op_lt (pe_dget hu (pv 0) pe_str (fun _ _ => rfl)) (pe_callB call_len_seq (by rfl) (by exact T.len) PySem.boot_len (pa_cons (pe_dget hu (pv 0) pe_str (fun _ _ => rfl)) pa_nil)) (nomark _)))))
        (pss_cons (ps_set (i := 2) scDraw.nd rfl (Or.inl rfl) (pe_ix ix_list (pe_dget hu (pv 0) pe_str (fun _ _ => rfl)) (pe_dget hu (pv 0) pe_str (fun _ _ => rfl)) (fun _ _ => rfl)))
        (pss_cons (ps_dput hu (pv 0) pe_str (pe_op op_add (pe_dget hu (pv 0) pe_str (fun _ _ => rfl)) pe_int) rfl)
        (pss_one (ps_if (pt_cmpR op_ge (pv 2) (pe_op op_pow pe_int pe_int) (nomark _))
          (pss_one (ps_dput hu (pv 0) pe_str (pe_op op_sub (pv 2) (pe_op op_pow pe_int pe_int)) rfl))
          (pss_one (ps_dput hu (pv 0) pe_str (pe_op op_mod (pe_callTy call_int1 (by rfl) (by exact T.int) PyProof.Rows.boot_int (pa_cons (pe_op op_add (pe_op op_mul (pe_dget hu (pv 0) pe_str (fun _ _ => rfl)) pe_int) (pv 2)) pa_nil)) pe_int) rfl))))))
        pss_nil)
      (pss_cons (ps_if (pt_cmpR op_gt (pe_dget hu (pv 0) pe_str (fun _ _ => rfl)) pe_int (nomark _))
        (pss_cons (ps_set (i := 3) scDraw.nd rfl (Or.inl rfl) (pe_op op_modN (pe_callTy call_int1 (by rfl) (by exact T.int) PyProof.Rows.boot_int (pa_cons (pe_dget hu (pv 0) pe_str (fun _ _ => rfl)) pa_nil)) (pv 1)))
        (pss_cons (ps_dput hu (pv 0) pe_str (pe_op op_fdivW (pe_dget hu (pv 0) pe_str (fun _ _ => rfl)) (pv 1)) rfl)
        (pss_one (ps_ret (pv 3))))) pss_nil)
      (pss_cons (ps_set (i := 4) scDraw.nd rfl (Or.inl rfl) (pe_op op_add (pe_op op_add (pe_dget hu (pv 0) pe_str (fun _ _ => rfl)) (pe_op op_mul (pe_dget hu (pv 0) pe_str (fun _ _ => rfl)) pe_int)) pe_int))
      (pss_one (ps_ret (pe_op op_modN (pe_op op_fdivN (pe_callTy call_int1 (by rfl) (by exact T.int) PyProof.Rows.boot_int (pa_cons (pe_op op_modN (pe_op op_pow (pv 4) pe_int) pe_int) pa_nil)) pe_int) (pv 1))))))), ?_⟩
    -- count
    refine ⟨_, rfl, p, _, rfl, g_count hH, _, _, rfl, rfl, _, rfl, p, _, rfl, p_count hH, ?_⟩
    have S1 : ∀ o, upd H p o c = some (.lst (ns.map V.int)) := fun o => HP.lst hc
    have S0 : ∀ o, SqL K (upd H p o) c (ns.map V.int) := fun o => .inl (.inl (S1 o))
    refine ⟨fun σ H' => ∃ (i' d' f' : Int) (v : Option V), σ = [some (.ref p), some (.int many), v, none, none] ∧ H' = upd H p (.dK (penD c i' d' ((n : Int) + 1) f')) ∧ 0 ≤ i' ∧ 0 ≤ d' ∧ 0 ≤ f' ∧ f' < 2147483587, ?_, ?_⟩
    · -- the digits are used up?
      refine ⟨_, rfl, p, _, rfl, g_digits upd_same, rfl, _, rfl, ?_⟩
      refine ite2 (fun _ => ?_) (fun _ => ⟨i, d, f, none, rfl, rfl, hi, hd, hf0, hf1⟩)
      refine ⟨_, rfl, p, _, rfl, g_at upd_same, _, rfl, p, _, rfl, g_cells upd_same, c, _, rfl, .inl (S0 _), _, _, rfl, rfl, _, rfl, ?_⟩
      refine ite2 (fun hlt => ?_) (fun _ => ⟨i, d, f, none, rfl, rfl, hi, hd, hf0, hf1⟩)
      have hlt := of_decide_eq_true hlt
      rw [List.length_map] at hlt
      obtain ⟨z, hz⟩ : ∃ z, (ns.map V.int)[i.toNat]? = some (V.int z) := by
        refine ⟨ns[i.toNat]'(by omega), ?_⟩
        rw [List.getElem?_map, List.getElem?_eq_getElem (by omega)]
        rfl
      have hat : atI (ns.map V.int) i = some (V.int z) := by
        have e : i = ((i.toNat : Nat) : Int) := by omega
        rw [e]
        exact atI_nat hz
      refine ⟨_, rfl, p, _, rfl, g_cells upd_same, _, rfl, p, _, rfl, g_at upd_same, c, _, _, _, rfl, rfl, S0 _, hat, ?_⟩
      refine ⟨_, rfl, p, _, rfl, g_at upd_same, _, _, rfl, rfl, _, rfl, p, _, rfl, p_at, ?_⟩
      refine ⟨_, rfl, _, _, rfl, rfl, ⟨by decide, by decide, by decide⟩, _, _, rfl, rfl, _, rfl, ?_⟩
      refine ite2 (fun hge => ?_) (fun _ => ?_)
      · have hge := of_decide_eq_true hge
        refine ⟨_, rfl, _, _, rfl, rfl, ⟨by decide, by decide, by decide⟩, _, _, rfl, rfl, _, rfl, p, _, rfl, p_digits, ?_⟩
        exact ⟨_, _, f, _, rfl, rfl, by omega, Int.sub_nonneg.mpr hge, hf0, hf1⟩
      · refine ⟨_, rfl, p, _, rfl, g_fold upd_same, _, _, rfl, rfl, .inl ⟨by omega, by omega⟩, _, rfl, _, _, rfl, rfl, .inl ⟨_, rfl, _, _, rfl, rfl, (by show (0 : Int) < 2147483587; decide), _, rfl, p, _, rfl, p_fold, ?_⟩⟩
        exact ⟨_, _, _, _, rfl, rfl, by omega, hd, Int.emod_nonneg _ (by decide), Int.emod_lt_of_pos _ (by decide)⟩
    · rintro σ H' ⟨i', d', f', v, rfl, rfl, hi', hd', hf0', hf1'⟩
      have pen : ∀ d'', 0 ≤ d'' → PenAt (upd H p (.dK (penD c i' d'' ((n : Int) + 1) f'))) p c (m + 1) := fun d'' h0 => ⟨ns, i', d'', f', n + 1, upd_same, S1 _, hi', h0, by omega, hf0', hf1'⟩
      refine ⟨_, rfl, p, _, rfl, g_digits upd_same, _, _, rfl, rfl, _, rfl, ?_⟩
      refine ite2 (fun _ => ?_) (fun _ => ?_)
      · refine ⟨_, rfl, p, _, rfl, g_digits upd_same, .inl ⟨_, rfl, _, rfl, _, _, rfl, rfl, by omega, ?_⟩⟩
        refine ⟨_, rfl, p, _, rfl, g_digits upd_same, _, rfl, _, _, rfl, rfl, ⟨m0, m1⟩, _, rfl, p, _, rfl, p_digits, ?_⟩
        refine ⟨_, rfl, ?_⟩
        exact k _ _ (Int.fmod_nonneg_of_pos _ m0) (Int.fmod_lt_of_pos _ m0) (pen _ (Int.ediv_nonneg hd' (by omega)))
      · refine ⟨_, rfl, p, _, rfl, g_fold upd_same, _, rfl, p, _, rfl, g_count upd_same, _, _, rfl, rfl, .inl ⟨by omega, by omega⟩, _, _, rfl, rfl, _, _, rfl, rfl, ?_⟩
        refine ⟨_, rfl, _, _, rfl, rfl, ⟨by decide, by decide, by omega⟩, _, _, rfl, rfl, (by show (2305843009213693951 : Int) ≠ 0; decide), .inl ⟨_, rfl, _, _, rfl, rfl, ⟨by decide, by decide⟩, _, rfl, _, _, rfl, rfl, by omega, ?_⟩⟩
        exact k _ _ (Int.fmod_nonneg_of_pos _ m0) (Int.fmod_lt_of_pos _ m0) (pen _ hd')
theorem SqT_upd {H : Hp} {p c : Addr} {xs : List V} {kvs : List (Key × V)} {o : HO} (h : SqT K H c xs) (hp : H p = some (.dK kvs)) : SqT K (upd H p o) c xs := by
  rcases h with (h | ⟨u, h⟩) | h
  · refine .inl (.inl ?_)
    rw [upd_ne (ne_of h hp (by intro z; cases z))]
    exact h
  · refine .inl (.inr ⟨u, ?_⟩)
    rw [upd_ne (ne_of h hp (by intro z; cases z))]
    exact h
  · exact .inr h
theorem ok_pick (D : DefAt K mg "_law_pick" sPick) (T : Txt K mg) (CD : Cl P w K mg base 1 "_law_draw" (spDraw K)) : Cl P w K mg base 2 "_law_pick" (spPick K) := by
  refine cl_of D scPick (fun vs H Q E h => ?_) (fun _ _ _ _ _ _ us hl => match us, hl with | [_, _], _ => rfl) (fun f cdv A outer s H vs Q E hr h => ?_)
  · obtain ⟨p, c, m, u, xs, rfl, _⟩ := h
    rfl
  · obtain ⟨p, c, m, u, xs, rfl, HP, hS, hm, m0, m1, k⟩ := h
    refine ⟨_, pss_one (ps_ret (pe_ix ix_seq (pv 1) (pe_cl CD hr (Nat.le_refl _) rfl (pa_cons (pv 0) (pa_cons (pe_callB call_len (by rfl) (by exact T.len) PySem.boot_len (pa_cons (pv 1) pa_nil)) pa_nil))) (fun _ _ => rfl))), ?_⟩
    obtain ⟨kvs, hk⟩ := HP.dict
    have hln : LenV K u H xs.length := by
      cases hS with
      | lst h => exact .inl ⟨_, h, rfl⟩
      | tup h => exact .inr ⟨_, h, rfl⟩
      | str h => exact ⟨h, by rw [List.length_map]; exact (Array.length_toList).symm⟩
    refine ⟨_, rfl, _, rfl, _, rfl, _, _, rfl, hln, ?_⟩
    refine ⟨p, c, m, _, rfl, HP, hm, by omega, ?_, fun v o v0 v1 HP' => ?_⟩
    · have h2 : (xs.length : Int).natAbs.log2 < 30 := PySem.Flt.log2_lt_of (by decide) (by omega)
      omega
    obtain ⟨y, hv⟩ : ∃ y, xs[v.toNat]? = some y := ⟨xs[v.toNat]'(by omega), List.getElem?_eq_getElem (by omega)⟩
    have e : v = ((v.toNat : Nat) : Int) := by omega
    have hq := k v.toNat y o hv HP'
    cases hS with
    | lst h => exact .inl ⟨_, xs, v, y, rfl, rfl, SqL_upd h hk, by rw [e]; exact atI_nat hv, hq⟩
    | tup h => exact .inr (.inl ⟨_, xs, v, y, rfl, rfl, SqT_upd h hk, by rw [e]; exact atI_nat hv, hq⟩)
    | @str z h =>
      rw [List.getElem?_map] at hv
      cases ec : z.cps.toList[v.toNat]? with
      | none => rw [ec] at hv; cases hv
      | some cc =>
        rw [ec] at hv
        obtain rfl := Option.some.inj hv
        exact .inr (.inr ⟨z, v, cc, rfl, rfl, h, by rw [e]; exact atI_nat ec, hq⟩)
end
end Wq
set_option Elab.async false
set_option linter.all false
set_option maxRecDepth 100000
set_option maxHeartbeats 2000000
/-! promises of defs that are called where nothing is being shown (repr is known there) -/
namespace Wq
open PySem PySem.Spec PyProof.Rows L2
structure FnG (P : Program) (w : World) (K : PySem.W.Frag) (mg : Str → Option Value) (base : Heap) (CX : CXT) (k : Nat) (f : Addr) (fd : FuncData) (ps : List Str) (sp : Sp) : Prop where
  len : ∀ vs H Q E, sp vs H Q E → vs.length = ps.length
  go : ∀ (A : Around), Room k A → A.guards = some [] → ∀ (outer : List Env) (s : Shared) (H : Hp) (args : Args) (us : List Value) (vs : List V) (Q : VK) (E : XK), Env0 P w K mg base A outer s H → BindsTo s fd args (ps.zip us) → Vals vs us → sp vs H Q E → codeAny (model P w) A (.call (.ref f) args) (CR CX outer P w H s Q E) s
section
variable {P : Program} {w : World} {K : PySem.W.Frag} {mg : Str → Option Value} {base : Heap} {CX : CXT} {k : Nat} {f : Addr} {fd : FuncData} {ps : List Str} {sp : Sp}
theorem FnG.of (F : FnOk P w K mg base CX k f fd ps sp) : FnG P w K mg base CX k f fd ps sp := ⟨F.len, fun A hr _ outer s H args us vs Q E => F.run A outer s H args us vs Q E hr⟩
theorem FnG.mono {j : Nat} (F : FnG P w K mg base CX j f fd ps sp) (h : j ≤ k) : FnG P w K mg base CX k f fd ps sp := ⟨F.len, fun A hr hg => F.go A (hr.mono h) hg⟩
end
theorem deep_g {A : Around} {e : Env} (h : A.guards = some []) : (A.deeper e).guards = some [] := h
/-- a def by its body, where nothing is being shown -/
theorem fnG_of {CX : CXT} {P : Program} {w : World} {K : PySem.W.Frag} {mg : Str → Option Value} {base : Heap} {k : Nat} {f : Addr} {x qual : Str} {pm : Arguments} {body : List Stmt} {sc : Scope} {dV kV doc pv cdv ct oc : Value} {an od : Option Addr} {osl : Array (Option Value)} {N ps : List Str} {sp : Sp}
    (lk : K.lookup f = some ⟨oc, od, .func (PySem.W.fnOf x qual pm body sc dV kV doc pv an cdv ct), osl⟩) (hcd : PySem.W.codeIn K cdv qual = true) (S : FnScope N ps sc) (len : ∀ vs H Q E, sp vs H Q E → vs.length = ps.length)
    (hbody : ∀ (A : Around), A.guards = some [] → ∀ (outer : List Env) (s : Shared) (H : Hp) (vs : List V) (Q : VK) (E : XK), Room k (A.deeper (envOfC qual sc s.heap.objs.size f cdv)) → sp vs H Q E →
      ∃ t, PSs (cxOf CX P w K mg base N qual sc f cdv A outer s H E) body t ∧ t { nx := fun _ H' => Q .non H', rt := Q } (start N vs) H) :
    FnG P w K mg base CX (k + 1) f (PySem.W.fnOf x qual pm body sc dV kV doc pv an cdv ct) ps sp := by
  refine ⟨len, fun A hr hg outer s H args us vs Q E e0 hb r hsp => ?_⟩
  obtain ⟨t, ht, hq⟩ := hbody A hg outer s H vs Q E (hr.deeper _) hsp
  have up : ∀ b o, base.get? b = some o → s.heap.get? b = some o := fun b o e => (e0.bs b o e).1
  have KX : K.In s.heap := e0.mod.kin.keeps up
  have kinds : ∀ y ∈ ps.zip us, sc.names.lookup y.1 = some .local ∨ (sc.names.lookup y.1 = some .cell ∧ ((cellsFrom (s.heap.objs.size + 1) sc.names []).lookup y.1).isSome = true) := by
    rintro ⟨n, v⟩ hy
    exact (S.par n (List.of_mem_zip hy).1).imp id fun q => ⟨q, PySem.W.cellsFrom_some _ _ _ (.inl q)⟩
  refine codeAny_call_function hr.depth (KX _ _ lk) rfl S.co S.gen rfl (PySem.W.codeRec_of KX hcd) (hb _ _ _ _ (wpAny_newFunctionEnv_cells S.kind kinds fun env he s1 x => ?_))
  subst he
  refine ⟨(e0.mod.nolimit.keeps up).keeps x.toInCall.keep, codeAny_func ?_⟩
  refine wpAny_mono (ht.run [] s1 (start N vs) H _ (inv_start S hr.hd e0 (len _ _ _ _ hsp) r x) hq) (fun fl s' hs => ?_) fun _ _ hs => hs
  cases fl with
  | brk => obtain ⟨_, _, _, q⟩ := hs; exact q.elim
  | cont => obtain ⟨_, _, _, q⟩ := hs; exact q.elim
  | next =>
    obtain ⟨σ', H', J, q⟩ := hs
    exact ⟨.non, H', J.os, J.bare, J.base, J.hok, rfl, q⟩
  | ret u =>
    obtain ⟨v, σ', H', J, rv, q⟩ := hs
    exact ⟨v, H', J.os, J.bare, J.base, J.hok, rv, q⟩
section
variable {X : Cx} {CX : CXT} {k : Nat} {f : Addr} {fd : FuncData} {ps : List Str} {sp : Sp} {ds : List Value} {dvs : List V} {E : XK} {x : Str} {p pos : Pos} {e : Expr} {es : List Expr} {t : TA}
theorem run_g {pins : List (Addr × Obj)} {σ : L2.St} {H : Hp} {s : Shared} {Q : VK} {us : List Value} {vs : List V} (F : FnG X.prog X.w X.K X.mg X.base CX k f fd ps sp) (hr : Room k X.A) (hG : X.A.guards = some []) (hb : Binds X.K fd ps ds) (hd : Vals dvs ds) (hx : Passes CX X E)
    (I : Inv X pins σ H s) (r : Vals vs us) (h : sp (vs ++ dvs) H Q E) : wpAny (model X.prog X.w) X.A (call (.ref f) us) (EP X pins σ Q) X.xe s := by
  have r2 := r.append hd
  have hl : (us ++ ds).length = ps.length := r2.length.symm.trans (F.len _ _ _ _ h)
  refine wpAny_call (codeAny_mono (F.go X.A hr hG X.stack s H ⟨us, []⟩ _ _ Q E I.env0 (hb s us I.kIn hl) r2 h) fun r s' hq => ?_)
  match r, hq with
  | .error e, hq => exact hx pins σ H s e s' I hq
  | .ok (.ret u), hq => exact I.after hq
theorem pe_callG (F : FnG X.prog X.w X.K X.mg X.base CX k f fd ps sp) (hr : Room k X.A) (hG : X.A.guards = some []) (hg : Gl X x) (hm : X.mg x = some (.ref f)) (hk : PySem.W.keepIn X.K (.ref f) = true) (hb : Binds X.K fd ps ds) (hd : Vals dvs ds) (hx : Passes CX X E) (ha : PA X (e :: es) t)
    (hdb : (x == ("__debug__" : Str)) = false := by decide) (he : starEach (e :: es) X.env = (false, eval e X.env) :: starEach es X.env := by rfl) (hpl : (backTo pos (starEach es X.env)).any (·.1) = false := by rfl) : PE X (.Call (.Name x p) (e :: es) [] pos) (tCall sp dvs E t) :=
  ⟨fun pins s σ H Q I h => wpAny_Call_Name_kw (ld_glob I hg hm (PySem.W.callWith_K (h₀ := X.base) I.ok.mod.kin hk (thn (ha.run pos pins s σ H _ I h) fun us s1 ⟨vs, H1, I1, r, q⟩ => ⟨I1.kIn, run_g F hr hG hb hd hx I1 r q⟩) he hpl) hdb)⟩
end
end Wq
set_option Elab.async false
set_option linter.all false
set_option maxRecDepth 100000
set_option maxHeartbeats 2000000
/-! repr where nothing is being shown: flat values, {}, lists and tuples of them, two deep -/
namespace Wq
open PySem PySem.Spec PyProof.Rows L2
mutual
/-- what a value shows -/
inductive Sh (K : PySem.W.Frag) (H : Hp) : V → PyData → Prop
  | non : Sh K H .non .none
  | bl (b : Bool) : Sh K H (.bl b) (.bool b)
  | int (i : Int) : Sh K H (.int i) (.int i)
  | str (x : Str) : Sh K H (.str x) (.str x)
  | emp {a : Addr} : H a = some (.dK []) → Sh K H (.ref a) (.dict [])
  | lst {a : Addr} {xs : List V} {ds : List PyData} : SqL K H a xs → a ≠ sysModules → ShAll K H xs ds → Sh K H (.ref a) (.list ds)
  | tup {a : Addr} {xs : List V} {ds : List PyData} : SqT K H a xs → ShAll K H xs ds → Sh K H (.ref a) (.tuple ds)
inductive ShAll (K : PySem.W.Frag) (H : Hp) : List V → List PyData → Prop
  | nil : ShAll K H [] []
  | cons {v : V} {vs : List V} {d : PyData} {ds : List PyData} : Sh K H v d → ShAll K H vs ds → ShAll K H (v :: vs) (d :: ds)
end
section
variable {X : Cx} {pins : List (Addr × Obj)} {σ : L2.St} {H : Hp} {s : Shared}
mutual
theorem Sh.reads (I : Inv X pins σ H s) : ∀ (d : PyData) (v : V) (u : Value), Sh X.K H v d → RelV v u → ∃ as, Reads s.heap u d as ∧ sysModules ∉ as
  | .none, _, _, h, r => by
    cases h; cases r
    exact ⟨_, .none, by simp⟩
  | .bool b, _, _, h, r => by
    cases h; cases r
    exact ⟨_, .bool b, by simp⟩
  | .int i, _, _, h, r => by
    cases h
    obtain ⟨t, rfl⟩ := r
    exact ⟨_, .int i t, by simp⟩
  | .str x, _, _, h, r => by
    cases h
    obtain ⟨t, rfl⟩ := r
    exact ⟨_, .str x t, by simp⟩
  | .list ds, _, _, h, r => by
    cases h with
    | lst hs na ha =>
      cases r
      obtain ⟨its, rv, ⟨o, n, ho, hc, _, hd⟩, _⟩ := I.list hs
      obtain ⟨as, hr, hn⟩ := Sh.readsAll I ds _ its ha rv
      refine ⟨_, .list ho hc hd hr, fun z => ?_⟩
      rcases List.mem_cons.mp z with e | e
      · exact na e.symm
      · exact hn e
  | .tuple ds, _, _, h, r => by
    cases h with
    | tup hs ha =>
      cases r
      obtain ⟨its, rv, ⟨o, ho, hc, n, hd⟩, _⟩ := I.tuple hs
      obtain ⟨as, hr, hn⟩ := Sh.readsAll I ds _ its ha rv
      exact ⟨_, .tuple ho hc hd hr, hn⟩
  | .dict kvs, _, _, h, r => by
    cases h with
    | @emp a he =>
      cases r
      obtain ⟨_, hs, vs, kv, o, es, ep, ho, hx, hd, _, hp, _⟩ := I.hok a _ he
      cases kv
      cases hl : es.toList with
      | cons e l =>
        rw [hl] at hp
        cases hp
      | nil =>
        refine ⟨_, .dict ho hx.1 hd (as := []) (bs := []) (by rw [hl]; exact .nil) (by rw [hl]; exact .nil), fun z => ?_⟩
        have z : sysModules = a := by simpa using z
        rw [← z] at hs
        simp at hs
theorem Sh.readsAll (I : Inv X pins σ H s) : ∀ (ds : List PyData) (vs : List V) (us : List Value), ShAll X.K H vs ds → Vals vs us → ∃ as, ReadsAll s.heap us ds as ∧ sysModules ∉ as
  | [], _, _, h, r => by
    cases h; cases r
    exact ⟨_, .nil, by simp⟩
  | d :: ds, _, _, h, r => by
    cases h with
    | cons h1 h2 =>
      cases r with
      | cons r1 r2 =>
        obtain ⟨as, q1, n1⟩ := Sh.reads I d _ _ h1 r1
        obtain ⟨bs, q2, n2⟩ := Sh.readsAll I ds _ _ h2 r2
        refine ⟨_, .cons q1 q2, fun z => ?_⟩
        rcases List.mem_append.mp z with e | e
        · exact n1 e
        · exact n2 e
end
end
def rRepr (K : PySem.W.Frag) : List V → Hp → VK → Prop := fun xs H Q => ∃ (v : V) (d : PyData), xs = [v] ∧ Sh K H v d ∧ d.showable = true ∧ d.depth ≤ 60 ∧ d.shown.length ≤ sizeLine ∧ Q (.str d.shown) H
theorem call_repr {X : Cx} (hG : X.A.guards = some []) (hu : X.A.units + 64 < cLine) : CallR X (.builtin "repr") (rRepr X.K) := by
  intro pins s σ H xs us Q I r h
  obtain ⟨v, d, rfl, hv, hs, hd, hl, q⟩ := h
  obtain ⟨u, rfl, ru⟩ := vals1 r
  obtain ⟨as, rd, na⟩ := hv.reads I d v u ru
  have big : ∀ a, u = .ref a → wpAny (model X.prog X.w) X.A (call (.builtin "repr") [u]) (EP X pins σ Q) X.xe s := by
    rintro a rfl
    exact PySem.repr_of_reads' rd hs (fun _ => na) hG (by omega) (fun _ _ e => e) (fun h' u tk hk => ⟨.str d.shown, H, I.kept hk, ⟨u, rfl⟩, q⟩) hl
  cases hv with
  | non => cases ru; exact PySem.P.repr_of_none ⟨.str _, H, I.tok _, ⟨_, rfl⟩, q⟩
  | bl b => cases ru; exact PySem.P.repr_of_bool ⟨.str _, H, I.tok _, ⟨_, rfl⟩, q⟩
  | int i => obtain ⟨t, rfl⟩ := ru; exact PySem.P.repr_of_int (of_decide_eq_true hs) ⟨.str _, H, I.tok _, ⟨_, rfl⟩, q⟩
  | str x => obtain ⟨t, rfl⟩ := ru; exact PySem.P.repr_of_str (h := ⟨.str _, H, I.tok _, ⟨_, rfl⟩, q⟩) (hsz := hl)
  | emp e => exact big _ ru
  | lst a b c => exact big _ ru
  | tup a b => exact big _ ru
/-- a new list, apart from the dict of modules -/
def tLstN (t : TA) : TE := fun σ H Q => t σ H fun xs H1 => xs.length ≤ sizeLine ∧ ∀ p, H1 p = none → p ≠ sysModules → Q (.ref p) (upd H1 p (.lst xs))
theorem pe_lstN {X : Cx} {es : List Expr} {t : TA} {pos : Pos} (h : PA X es t) : PE X (.List es pos) (tLstN t) := by
  refine ⟨fun pins s σ H Q I hq => wpAny_List_spliced (thn (h.run pos pins s σ H _ I hq) fun us s1 ⟨xs, H1, I1, r, z, q⟩ => ⟨by rw [← r.length]; exact z, ?_⟩)⟩
  have hf : H1 s1.heap.objs.size = none := I1.hok.fresh (Nat.le_refl _)
  have hb := I1.big
  exact ⟨.ref s1.heap.objs.size, upd H1 s1.heap.objs.size (.lst xs), I1.laid (t' := s1.toks) (fun b u e => Heap.get?_push_of_some _ e) (Nat.le_refl _) ⟨z, us, 0, r, Heap.get?_push_size _ rfl⟩, rfl, q _ hf (Nat.ne_of_gt hb)⟩
end Wq
set_option Elab.async false
set_option linter.all false
set_option maxRecDepth 100000
set_option maxHeartbeats 2000000
/-! sets of the signs of texts, and their difference -/
namespace Wq
open PySem PySem.Spec PyProof.Rows
namespace SD
abbrev sg (c : Nat) : Str := ⟨#[c]⟩
theorem sg_inj {a b : Nat} : sg a = sg b ↔ a = b := by
  refine ⟨fun h => ?_, fun h => by rw [h]⟩
  have := congrArg (fun z : Str => z.cps.toList) h
  simpa using this
def mem (l : List Nat) (k : Str) : Bool := l.any fun c => decide (k = sg c)
theorem mem_sg {l : List Nat} {c : Nat} : mem l (sg c) = decide (c ∈ l) := by
  unfold mem
  rw [Bool.eq_iff_iff]
  simp only [List.any_eq_true, decide_eq_true_eq]
  constructor
  · rintro ⟨d, hd, e⟩
    rw [sg_inj] at e
    rw [e]; exact hd
  · intro h
    exact ⟨c, h, rfl⟩
/-- how many unlike signs -/
def dnum : List Nat → Nat
  | [] => 0
  | c :: r => if c ∈ r then dnum r else dnum r + 1
theorem dnum_le : ∀ l : List Nat, dnum l ≤ l.length
  | [] => Nat.le_refl _
  | c :: r => by
    have := dnum_le r
    unfold dnum
    split <;> simp <;> omega
section
variable {prog : Program} {w : World} {A : Around} {E : Value → Shared → Prop} {s : Shared}
/-- a loop in which nothing happens -/
theorem forIdle {α β : Type} {b : β} {f : α → β → Sem (ForInStep β)} {Q : β → Shared → Prop} : ∀ (l : List α), (∀ e ∈ l, f e b = pure (.yield b)) → Q b s → wpAny (model prog w) A (forIn l b f) Q E s
  | [], _, h => wpAny_pure h
  | e :: l, he, h => by
    rw [List.forIn_cons, he e List.mem_cons_self]
    refine wpAny_bind (wpAny_pure ?_)
    exact forIdle l (fun e h => he e (List.mem_cons_of_mem _ h)) h
theorem forIdleA {α β : Type} {b : β} {f : α → β → Sem (ForInStep β)} {Q : β → Shared → Prop} (l : Array α) (he : ∀ e ∈ l.toList, f e b = pure (.yield b)) (h : Q b s) : wpAny (model prog w) A (forIn l b f) Q E s := by
  rw [← Array.forIn_toList]
  exact forIdle l.toList he h
def IsT (h : Heap) (a : Addr) : Prop := ∃ o es ep t, h.get? a = some o ∧ o.data = .set es ep t ∧ t.fits es.size = true ∧ ∀ e ∈ es.toList, ∃ x u, e.2 = Value.str x u
theorem quiet {Q : Bool → Shared → Prop} (h : Q true s) : ∀ l : List Addr, (∀ a ∈ l, IsT s.heap a) → wpAny (model prog w) A (setsQuiet l) Q E s := by
  intro l hl
  unfold setsQuiet
  have main : ∀ l : List Addr, (∀ a ∈ l, IsT s.heap a) → ∀ {f : Addr → Option Bool × Unit → Sem (ForInStep (Option Bool × Unit))} {Q' : Option Bool × Unit → Shared → Prop},
      (∀ a, IsT s.heap a → ∀ (Q2 : ForInStep (Option Bool × Unit) → Shared → Prop), Q2 (.yield (none, ())) s → wpAny (model prog w) A (f a (none, ())) Q2 E s) → Q' (none, ()) s → wpAny (model prog w) A (forIn l (none, ()) f) Q' E s := by
    intro l
    induction l with
    | nil => intro _ f Q' _ hq; exact wpAny_pure hq
    | cons a l ih =>
      intro hl f Q' hf hq
      rw [List.forIn_cons]
      exact wpAny_bind (hf a (hl a List.mem_cons_self) _ (ih (fun b hb => hl b (List.mem_cons_of_mem _ hb)) hf hq))
  refine wpAny_bind (main l hl (fun a ha Q2 h2 => ?_) (wpAny_pure h))
  obtain ⟨o, es, ep, t, ho, hd, hf, he⟩ := ha
  unfold setEntries
  refine wpAny_bind (wpAny_bind (wpAny_setState_of ho hd hf (wpAny_pure ?_)))
  refine wpAny_bind (forIdleA es (fun e h => ?_) (wpAny_pure h2))
  obtain ⟨x, u, ex⟩ := he e h
  obtain ⟨i, y⟩ := e
  have ex : y = .str x u := ex
  subst ex
  rfl
theorem isT_of {a : Addr} {S : Str → Bool} {n : Nat} {h : Heap} (hS : h.SetOf (PySem.strKind prog w) a S n) : IsT h a := by
  obtain ⟨o, es, ep, t, ho, _, hd, hel, _, _, hf, _⟩ := hS
  refine ⟨o, es, ep, t, ho, hd, hf, fun e he => ?_⟩
  obtain ⟨⟨k, h1, _⟩, _⟩ := hel e he
  obtain ⟨u, e1⟩ := Value.isStrOf_shape (x := k) (v := e.2) h1
  exact ⟨k, u, e1⟩
/-- the walk along a set while another one is filled -/
theorem walkU {a o r : Addr} {S SO : Str → Bool} {n m : Nat} {Q : Array (Int × Value) → Shared → Prop} (hS : s.heap.SetOf (PySem.strKind prog w) a S n) (hO : s.heap.SetOf (PySem.strKind prog w) o SO m) (hR : s.heap.SetOf (PySem.strKind prog w) r (fun _ => false) 0) (na : a ≠ r) (no : o ≠ r)
    (hQ : ∀ (ws : Array (Int × Value)) (h' : Heap), ElemsOf (PySem.strKind prog w) ws.toList → (∀ k, S k = true ↔ ∃ e ∈ ws.toList, (PySem.strKind prog w).is k e.2 = true) → ws.size = n → Heap.SameBut r s.heap h' → h'.SetOf (PySem.strKind prog w) r (fun _ => false) 0 → Q ws { s with heap := h' }) :
    wpAny (model prog w) A (setWalkUnseen a [o, r] (some r)) Q E s := by
  have qT := quiet (prog := prog) (w := w) (A := A) (E := E) (s := s) (Q := fun b s' => b = true ∧ s' = s) ⟨rfl, rfl⟩ [a, o, r] (fun b hb => by
    simp only [List.mem_cons, List.not_mem_nil, or_false] at hb
    rcases hb with e | e | e
    · rw [e]; exact isT_of hS
    · rw [e]; exact isT_of hO
    · rw [e]; exact isT_of hR)
  obtain ⟨oa, es, ep, t, ho, hx, hd, hel, hm, hb, hf, hn⟩ := id hS
  have same : ∀ es' : Array (Int × Value), es'.toList.Perm es.toList → Q es' s := fun es' p => hQ es' s.heap (fun e he => hel e (p.mem_iff.mp he)) (fun k => (hm k).trans ⟨fun ⟨e, h1, h2⟩ => ⟨e, p.mem_iff.mpr h1, h2⟩, fun ⟨e, h1, h2⟩ => ⟨e, p.mem_iff.mp h1, h2⟩⟩) (by
    have := p.length_eq
    rw [Array.length_toList, Array.length_toList] at this
    omega) (.refl _ _) hR
  unfold setWalkUnseen
  refine wpAny_bind (wpAny_setState_of ho hd hf ?_)
  dsimp only
  refine wpAny_bind (L2.wpAny_byText ?_)
  have walk : (w.params.followText "set-order" = true ∨ (t.led = true ∧ t.plain = true) ∨ es.size ≤ 1) → wpAny (model prog w) A (setWalk a) Q E s := by
    intro hc
    unfold setWalk
    refine wpAny_bind (wpAny_setState_of ho hd hf ?_)
    dsimp only
    refine wpAny_bind (L2.wpAny_byText ?_)
    by_cases hbt : w.params.followText "set-order" = true
    · refine L2.wp_if_pos hbt ?_
      exact wpAny_bind (wpAny_askSetting (wpAny_pure (same _ (L2.pick_perm _ es))))
    · refine L2.wp_if_neg hbt ?_
      have hdr : ¬ ((!t.plain && decide (es.size > 1)) = true) := by
        rcases hc with z | ⟨_, z⟩ | z
        · exact absurd z hbt
        · rw [z]; simp
        · simp; omega
      refine L2.wp_if_neg hdr ?_
      refine wpAny_bind (wpAny_of_eq (a := ()) ?_ (wpAny_pure (same es (.refl _))))
      show (if (!t.led && decide (es.size > 1)) = true then unsupported "set:maker-not-led" else pure ()) = pure ()
      have : ¬ ((!t.led && decide (es.size > 1)) = true) := by
        rcases hc with z | ⟨z, _⟩ | z
        · exact absurd z hbt
        · rw [z]; simp
        · simp; omega
      rw [if_neg this]
  by_cases hc : (w.params.followText "set-order" || t.led && t.plain || decide (es.size ≤ 1)) = true
  · refine L2.wp_if_pos hc (walk ?_)
    rcases (Bool.or_eq_true _ _).mp hc with z | z
    · rcases (Bool.or_eq_true _ _).mp z with z | z
      · exact .inl z
      · exact .inr (.inl ((Bool.and_eq_true _ _).mp z))
    · exact .inr (.inr (of_decide_eq_true z))
  · refine L2.wp_if_neg hc ?_
    refine wpAny_bind (wpAny_mono qT (fun b s' z => ?_) fun _ _ z => z)
    obtain ⟨rfl, rfl⟩ := z
    refine L2.wp_if_neg (by decide) ?_
    refine wpAny_bind (wpAny_rule ?_)
    obtain ⟨orr, er, epr, tr, hor, hxr, hdr, helr, hmr, hbr, hfr, hnr⟩ := id hR
    refine wpAny_bind (wpAny_setState_of hor hdr hfr ?_)
    dsimp only
    by_cases hf2 : (tr.led && !t.led || tr.plain && !t.plain) = true
    · refine L2.wp_if_pos hf2 ?_
      refine wpAny_bind (wpAny_storeSet_of hor hdr ?_ (fits_of_scanBound hbr))
      refine wpAny_pure (hQ es _ hel hm hn (Heap.SameBut.update s'.heap r _) ?_)
      exact ⟨_, er, _, _, L2.store_at hor hdr, hxr, rfl, helr, hmr, hbr, hfr, hnr⟩
    · refine L2.wp_if_neg hf2 ?_
      exact wpAny_pure (same es (.refl _))
/-- the loop of a difference -/
theorem loopD {a o r : Addr} {S SO : Str → Bool} {n m was : Nat} {id : String} (na : a ≠ r) (no : o ≠ r) : ∀ (l : List (Int × Value)) (R : Str → Bool) (j : Nat) (s : Shared) (Q : PUnit → Shared → Prop) (f : Int × Value → PUnit → Sem (ForInStep PUnit)),
    (f = fun e _ => do
      holding [e.2] (do
        let q ← setFind o e.2 e.1
        let there ← pure q.isSome
        if (!there) = true then do
          let _ ← setAddHashed r e.2 e.1
          pure ()
        else pure ())
      Builtin.Frozenset.unchanged id a was
      pure (.yield PUnit.unit)) →
    ElemsOf (PySem.strKind prog w) l → (∃ oa es t, s.heap.get? a = some oa ∧ oa.data = .set es was t ∧ t.fits es.size = true) → s.heap.SetOf (PySem.strKind prog w) o SO m → s.heap.SetOf (PySem.strKind prog w) r R j → j + l.length < scanBound →
    (∀ h' R' j', Heap.SameBut r s.heap h' → h'.SetOf (PySem.strKind prog w) r R' j' → (j' = 0 ↔ j = 0 ∧ ∀ e ∈ l, ∀ k, (PySem.strKind prog w).is k e.2 = true → SO k = true) → Q ⟨⟩ { s with heap := h' }) →
    wpAny (model prog w) A (forIn l PUnit.unit f) Q E s := by
  intro l
  induction l with
  | nil =>
    intro R j s Q f _ _ _ _ hR _ hQ
    exact wpAny_pure (hQ s.heap R j (.refl _ _) hR ⟨fun z => ⟨z, fun _ h => nomatch h⟩, fun z => z.1⟩)
  | cons e l ih =>
    intro R j s Q f ef hel ha hO hR hb hQ
    rw [List.forIn_cons]
    refine wpAny_bind ?_
    obtain ⟨⟨k, hk, hh⟩, hsc⟩ := hel.head
    obtain ⟨i, x⟩ := e
    simp only at hk hh hsc
    subst hh
    have step : ∀ (h' : Heap) (R' : Str → Bool) (j' : Nat), Heap.SameBut r s.heap h' → h'.SetOf (PySem.strKind prog w) r R' j' → (j' = 0 ↔ j = 0 ∧ SO k = true) → j' ≤ j + 1 → ∀ Q2 : ForInStep PUnit → Shared → Prop, (∀ s1, wpAny (model prog w) A (forIn l PUnit.unit f) Q E s1 → Q2 (.yield PUnit.unit) s1) →
        wpAny (model prog w) A (do
          Builtin.Frozenset.unchanged id a was
          pure (ForInStep.yield PUnit.unit)) Q2 E { s with heap := h' } := by
      intro h' R' j' sb hR' hj hjle Q2 hQ2
      obtain ⟨oa, es, t, ho, hd, hf⟩ := ha
      have ho' : h'.get? a = some oa := by rw [sb.2 a na]; exact ho
      refine wpAny_bind ?_
      unfold Builtin.Frozenset.unchanged setEpoch
      refine wpAny_bind (wpAny_bind (wpAny_setState_of (s := { s with heap := h' }) ho' hd hf (wpAny_pure ?_)))
      refine L2.wp_if_neg (by simp) ?_
      refine wpAny_pure (wpAny_pure (hQ2 _ ?_))
      have hO' : h'.SetOf (PySem.strKind prog w) o SO m := by
        obtain ⟨oo, r1⟩ := hO
        obtain ⟨es1, ep1, t1, g1, r2⟩ := r1
        exact ⟨oo, es1, ep1, t1, by rw [sb.2 o no]; exact g1, r2⟩
      refine ih R' j' { s with heap := h' } Q f ef hel.tail ⟨oa, es, t, ho', hd, hf⟩ hO' hR' (by simp only [List.length_cons] at hb; omega) fun h2 R2 j2 sb2 hR2 hj2 => ?_
      refine hQ h2 R2 j2 (sb.trans sb2) hR2 (hj2.trans ⟨fun ⟨z1, z2⟩ => ?_, fun ⟨z1, z2⟩ => ?_⟩)
      · have z1 := hj.mp z1
        refine ⟨z1.1, fun e he k' hk' => ?_⟩
        rcases List.mem_cons.mp he with q | q
        · subst q
          obtain ⟨u1, e1⟩ := Value.isStrOf_shape (x := k) (v := x) hk
          obtain ⟨u2, e2⟩ := Value.isStrOf_shape (x := k') (v := x) hk'
          rw [e1] at e2
          cases e2
          exact z1.2
        · exact z2 e q k' hk'
      · exact ⟨hj.mpr ⟨z1, z2 _ List.mem_cons_self k hk⟩, fun e he => z2 e (List.mem_cons_of_mem _ he)⟩
    have fe : f ((PySem.strKind prog w).hash k, x) PUnit.unit = (do
      holding [x] (do
        let q ← setFind o x ((PySem.strKind prog w).hash k)
        let there ← pure q.isSome
        if (!there) = true then do
          let _ ← setAddHashed r x ((PySem.strKind prog w).hash k)
          pure ()
        else pure ())
      Builtin.Frozenset.unchanged id a was
      pure (.yield PUnit.unit)) := by rw [ef]
    rw [fe]
    refine wpAny_bind (wpAny_holding ?_)
    refine wpAny_bind (wpAny_setFind_of hk hsc hO fun q hq => ?_)
    refine wpAny_bind (wpAny_pure ?_)
    rw [hq]
    cases hS : SO k with
    | true =>
      refine L2.wp_if_neg (by decide) (wpAny_pure ?_)
      exact step s.heap R j (.refl _ _) hR ⟨fun z => ⟨z, hS⟩, fun z => z.1⟩ (by omega) _ fun _ z => z
    | false =>
      refine L2.wp_if_pos (by decide) ?_
      refine wpAny_bind (wpAny_setAddHashed_of hk hsc hR (by simp only [List.length_cons] at hb; omega) fun h' sb hR' => wpAny_pure ?_)
      refine step h' _ _ sb hR' ?_ (by split <;> omega) _ fun _ z => z
      rw [hS]
      refine ⟨fun z => ?_, fun z => absurd z.2 (by decide)⟩
      exfalso
      split at z
      · rename_i hRk
        obtain ⟨o1, es1, ep1, t1, g1, _, _, _, hm1, _, _, hn1⟩ := hR
        obtain ⟨e1, he1, _⟩ := (hm1 k).mp hRk
        have : es1.toList ≠ [] := List.ne_nil_of_mem he1
        have hz : es1.size = 0 := by omega
        exact this (by simpa using hz)
      · omega
end
end SD
end Wq
set_option Elab.async false
set_option linter.all false
set_option maxRecDepth 100000
set_option maxHeartbeats 2000000
namespace Wq
open PySem PySem.Spec PyProof.Rows
namespace SD
section
variable {prog : Program} {w : World} {A : Around} {E : Value → Shared → Prop} {s : Shared}
theorem set_type {h : Heap} {a : Addr} {S : Str → Bool} {n : Nat} (hS : h.SetOf (PySem.strKind prog w) a S n) {g : Array GenState} {d : Drawn} {t : Nat} {os : OsState} : (⟨h, g, d, t, os⟩ : Shared).TypeIs (.ref a) "set" := by
  obtain ⟨o, es, ep, t, ho, hx, _⟩ := hS
  exact ⟨o, ho, hx.1⟩
theorem size_of {h : Heap} {a : Addr} {S : Str → Bool} {n : Nat} (hS : h.SetOf (PySem.strKind prog w) a S n) {g : Array GenState} {d : Drawn} {t : Nat} {os : OsState} {Q : Nat → Shared → Prop} (q : Q n ⟨h, g, d, t, os⟩) : wpAny (model prog w) A (Builtin.Frozenset.sizeOf a) Q E ⟨h, g, d, t, os⟩ := by
  obtain ⟨o, es, ep, t, ho, hx, hd, _, _, _, hf, hn⟩ := hS
  unfold Builtin.Frozenset.sizeOf setEntries
  refine wpAny_bind (wpAny_bind (wpAny_setState_of ho hd hf (wpAny_pure (wpAny_pure ?_))))
  dsimp only
  rw [hn]
  exact q
theorem any_set {h : Heap} {a : Addr} {S : Str → Bool} {n : Nat} (hS : h.SetOf (PySem.strKind prog w) a S n) {g : Array GenState} {d : Drawn} {t : Nat} {os : OsState} {Q : Bool → Shared → Prop} (q : Q true ⟨h, g, d, t, os⟩) : wpAny (model prog w) A (Builtin.Frozenset.isAnySet (.ref a)) Q E ⟨h, g, d, t, os⟩ := by
  unfold Builtin.Frozenset.isAnySet orM
  refine wpAny_bind (wpAny_isInstance (set_type hS) sub_set_self ?_)
  exact wpAny_pure q
theorem diff {a o : Addr} {S SO : Str → Bool} {n m : Nat} {nm : String} {Q : Value → Shared → Prop} (hS : s.heap.SetOf (PySem.strKind prog w) a S n) (hO : s.heap.SetOf (PySem.strKind prog w) o SO m) (hnm : ¬ n / 4 > m) (hn : n < scanBound)
    (hQ : ∀ h' R j, h'.SetOf (PySem.strKind prog w) s.heap.objs.size R j → (j = 0 ↔ ∀ k, S k = true → SO k = true) → (∀ b u, s.heap.get? b = some u → h'.get? b = some u) → Q (.ref s.heap.objs.size) { s with heap := h' }) :
    wpAny (model prog w) A (Builtin.Frozenset.difference nm a (.ref o)) Q E s := by
  obtain ⟨hp, g, d, tk, os⟩ := s
  unfold Builtin.Frozenset.difference
  refine wpAny_bind (any_set hO ?_)
  refine L2.wp_if_neg (by decide) ?_
  unfold Builtin.Frozenset.addrOf
  refine wpAny_bind (wpAny_pure ?_)
  refine L2.wp_if_neg (by simp) ?_
  refine L2.wp_if_pos rfl ?_
  refine wpAny_bind (size_of hO ?_)
  refine wpAny_bind (size_of hS ?_)
  refine L2.wp_if_neg hnm ?_
  unfold Builtin.Frozenset.baseOf
  refine wpAny_bind (wpAny_bind (wpAny_isInstance (set_type hS) sub_set_self (wpAny_pure ?_)))
  refine wpAny_bind (PpSet.newSet_ok ?_)
  refine wpAny_bind (wpAny_pure ?_)
  have hp1 : ∀ {b : Addr} {u x : Obj}, hp.get? b = some u → (hp.push x).get? b = some u := fun e => Heap.get?_push_of_some _ e
  have lift : ∀ {b : Addr} {T : Str → Bool} {j : Nat} {x : Obj}, hp.SetOf (PySem.strKind prog w) b T j → (hp.push x).SetOf (PySem.strKind prog w) b T j := by
    rintro b T j x ⟨o1, es, ep, t, ho, r⟩
    exact ⟨o1, es, ep, t, hp1 ho, r⟩
  obtain ⟨oa, es, ep, t, ho, hx, hd, hel, hm, hb, hf, hnn⟩ := id hS
  unfold setEpoch
  refine wpAny_bind (wpAny_bind (wpAny_setState_of (hp1 ho) hd hf (wpAny_pure ?_)))
  have hnew : (hp.push { cls := .type "set", dict := none, data := .set #[] 0 (.fresh 0 0 (!w.params.followText "set-order")) }).SetOf (PySem.strKind prog w) hp.objs.size (fun _ => false) 0 :=
    (PyProof.Rows.setObjOf_fresh (knd := PySem.strKind prog w) _).setOf (Heap.get?_push_size _ rfl) (by decide)
  have na : a ≠ hp.objs.size := Nat.ne_of_lt (Heap.lt_size ho)
  have no : o ≠ hp.objs.size := by
    obtain ⟨o1, _, _, _, h1, _⟩ := hO
    exact Nat.ne_of_lt (Heap.lt_size h1)
  refine wpAny_bind (wpAny_holding (wpAny_bind ?_))
  refine L2.wp_if_pos rfl ?_
  refine walkU (s := { heap := hp.push { cls := .type "set", dict := none, data := .set #[] 0 (.fresh 0 0 (!w.params.followText "set-order")) }, gens := g, drawn := d, toks := tk, os := os }) (lift hS) (lift hO) hnew na no fun ws h' hel' hm' hsz sb hR => ?_
  have up : ∀ {b : Addr} {u : Obj}, hp.get? b = some u → h'.get? b = some u := fun {b u} e => by
    rw [sb.2 b (Nat.ne_of_lt (Heap.lt_size e))]
    exact hp1 e
  have hO' : h'.SetOf (PySem.strKind prog w) o SO m := by
    obtain ⟨o1, es1, ep1, t1, h1, r⟩ := hO
    exact ⟨o1, es1, ep1, t1, up h1, r⟩
  refine wpAny_bind ?_
  rw [← Array.forIn_toList]
  refine loopD (S := S) (n := n) (id := nm) (was := ep) na no ws.toList (fun _ => false) 0 { heap := h', gens := g, drawn := d, toks := tk, os := os } _ _ rfl hel' ⟨oa, es, t, up ho, hd, hf⟩ hO' hR (by rw [Array.length_toList]; omega) fun h2 R' j' sb2 hR2 hj => ?_
  refine wpAny_pure (wpAny_pure (hQ h2 R' j' hR2 (hj.trans ⟨fun z k hk => ?_, fun z => ⟨rfl, fun e he k hk => ?_⟩⟩) fun b u e => ?_))
  · obtain ⟨e, he, hk'⟩ := (hm' k).mp hk
    exact z.2 e he k hk'
  · exact z k ((hm' k).mpr ⟨e, he, hk⟩)
  · rw [sb2.2 b (Nat.ne_of_lt (Heap.lt_size e))]
    exact up e
theorem entry_sub : entryFor table "set.__sub__" = some Builtin.«frozenset.__sub__» := entryFor_alias (id' := "frozenset.__sub__") (by kernel_rfl) rfl (by decide +kernel) (by kernel_rfl)
theorem sub_tree (a b : Value) : Builtin.«frozenset.__sub__» ⟨[a, b], []⟩ = (do
    let (self, other) ← Builtin.Frozenset.slot1 "__sub__" ⟨[a, b], []⟩
    if !(← Builtin.Frozenset.isAnySet self <&&> Builtin.Frozenset.isAnySet other) then rule s!"frozenset.{"__sub__"}.declined"; return ← ret .notImplemented
    ret (← Builtin.Frozenset.difference s!"frozenset.{"__sub__"}" (← Builtin.Frozenset.addrOf self) other)) := rfl
end
end SD
end Wq
set_option Elab.async false
set_option linter.all false
set_option maxRecDepth 100000
set_option maxHeartbeats 2000000
namespace Wq
open PySem PySem.Spec PyProof.Rows
namespace SD
section
variable {prog : Program} {w : World} {A : Around} {E : Value → Shared → Prop} {s : Shared}
theorem call_sub {a o : Addr} {S SO : Str → Bool} {n m : Nat} {Q : Value → Shared → Prop} (hS : s.heap.SetOf (PySem.strKind prog w) a S n) (hO : s.heap.SetOf (PySem.strKind prog w) o SO m) (hnm : ¬ n / 4 > m) (hn : n < scanBound)
    (hQ : ∀ h' R j, h'.SetOf (PySem.strKind prog w) s.heap.objs.size R j → (j = 0 ↔ ∀ k, S k = true → SO k = true) → (∀ b u, s.heap.get? b = some u → h'.get? b = some u) → Q (.ref s.heap.objs.size) { s with heap := h' }) :
    wpAny (model prog w) A (call (.builtin "set.__sub__") [.ref a, .ref o]) Q E s := by
  obtain ⟨hp, g, d, tk, os⟩ := s
  refine wpAny_call (codeAny_call_builtin PySem.F.slot_set_sub.plain entry_sub (PySem.F.slot_set_sub.check _ _ _ _ _ _ _ _ (set_type hS) (PySem.F.args_set_sub_2 _ _) ?_))
  rw [sub_tree]
  have h1 : Builtin.Frozenset.slot1 "__sub__" ⟨[.ref a, .ref o], []⟩ = pure (.ref a, .ref o) := rfl
  refine wpAny_bind (wpAny_of_eq h1 ?_)
  dsimp only
  unfold andM
  refine wpAny_bind (wpAny_bind (any_set hS ?_))
  show wpAny _ _ (Builtin.Frozenset.isAnySet (.ref o)) _ _ _
  refine any_set hO ?_
  refine L2.wp_if_neg (by decide) ?_
  unfold Builtin.Frozenset.addrOf
  refine wpAny_bind (wpAny_pure (wpAny_bind (diff hS hO hnm hn fun h' R j h1 h2 h3 => ?_)))
  exact wpAny_pure (hQ h' R j h1 h2 h3)
/-- a - b of sets of texts -/
theorem bin_sub {a o : Addr} {S SO : Str → Bool} {n m : Nat} {Q : Value → Shared → Prop} (hS : s.heap.SetOf (PySem.strKind prog w) a S n) (hO : s.heap.SetOf (PySem.strKind prog w) o SO m) (hnm : ¬ n / 4 > m) (hn : n < scanBound)
    (hQ : ∀ h' R j, h'.SetOf (PySem.strKind prog w) s.heap.objs.size R j → (j = 0 ↔ ∀ k, S k = true → SO k = true) → (∀ b u, s.heap.get? b = some u → h'.get? b = some u) → Q (.ref s.heap.objs.size) { s with heap := h' }) :
    wpAny (model prog w) A (binaryOp .Sub (.ref a) (.ref o)) Q E s := by
  obtain ⟨hp, g, d, tk, os⟩ := s
  exact wpAny_binaryOp_same (set_type hS) (set_type hO) PySem.F.fills_set_sub PySem.F.slot_set_sub (call_sub hS hO hnm hn fun h' R j h1 h2 h3 => ⟨fun z => (nomatch z), hQ h' R j h1 h2 h3⟩)
/-- the signs of a text are put into a set -/
theorem loopT {R : Result → Shared → Prop} {I : Addr} {fp wr : List Addr} {n : Nat} {x : Str} {St : Nat → Heap → Prop} (W : Walks prog w A.in1 I fp wr n (SignAt x) St) (hn : n = x.cps.size) (S : Addr) (hSf : S ∉ fp) (hb : n + 1 < scanBound) : ∀ (k i : Nat) (s : Shared), n - i = k → i ≤ n → St i s.heap →
      s.heap.SetOf (PySem.strKind prog w) S (mem (x.cps.toList.take i).reverse) (dnum (x.cps.toList.take i).reverse) →
      (∀ h' tk, (∀ b o, b ∉ S :: wr → s.heap.get? b = some o → h'.get? b = some o) → h'.SetOf (PySem.strKind prog w) S (mem x.cps.toList.reverse) (dnum x.cps.toList.reverse) → R (.ok (.ret .none)) { s with heap := h', toks := tk }) →
      codeAny (model prog w) A (.builtin "set.update.loop" ⟨[.ref S, .ref I], []⟩) R s := by
  have hSw : S ∉ wr := fun h => hSf (W.sub _ h)
  intro k
  induction k with
  | zero =>
    intro i s hk hi hst hS hR
    have hin : i = n := by omega
    subst hin
    refine codeAny_builtin PyProof.Rows.F.entry_set_update_loop ?_
    rw [Around.under_plainId PyProof.Rows.F.plain_set_update_loop _]
    show wpAny _ A.in1 (pyNext (.ref I) >>= _) _ _ s
    refine wpAny_bind (W.done s _ _ hst fun h' tk hm => ?_)
    show wpAny _ A.in1 (ret Value.none) _ _ _
    refine wpAny_pure (hR h' tk (fun b o hb e => hm b o (fun z => hb (List.mem_cons_of_mem _ z)) e) ?_)
    rw [List.take_of_length_le (by rw [hn]; simp)] at hS
    obtain ⟨o, es, ep, t, ho, rest⟩ := hS
    exact ⟨o, es, ep, t, hm S _ hSw ho, rest⟩
  | succ k ih =>
    intro i s hk hi hst hS hR
    have hlt : i < n := by omega
    refine codeAny_builtin PyProof.Rows.F.entry_set_update_loop ?_
    rw [Around.under_plainId PyProof.Rows.F.plain_set_update_loop _]
    show wpAny _ A.in1 (pyNext (.ref I) >>= _) _ _ s
    refine wpAny_bind (W.item i s _ _ hlt hst fun v h1 tk hP hst' hm => ?_)
    obtain ⟨c, t, hc, rfl⟩ := hP
    have hS' : h1.SetOf (PySem.strKind prog w) S (mem (x.cps.toList.take i).reverse) (dnum (x.cps.toList.take i).reverse) := by
      obtain ⟨o, es, ep, tb, ho, rest⟩ := hS
      exact ⟨o, es, ep, tb, hm S _ hSw ho, rest⟩
    have hcl : x.cps.toList[i]? = some c := by rw [Array.getElem?_toList]; exact hc
    have hrev : (x.cps.toList.take (i + 1)).reverse = c :: (x.cps.toList.take i).reverse := by
      rw [List.take_add_one, hcl]
      simp
    show wpAny _ A.in1 (holding [Value.str ⟨#[c]⟩ t] (setAdd S (.str ⟨#[c]⟩ t)) >>= _) _ _ _
    refine wpAny_bind (wpAny_holding ?_)
    unfold setAdd
    refine wpAny_holding ?_
    refine wpAny_bind ((PySem.strKind prog w).pyHash (k := sg c) (strKind_is _ _ _ _) ?_)
    have hdl := dnum_le (x.cps.toList.take i).reverse
    rw [List.length_reverse, List.length_take] at hdl
    refine wpAny_setAddHashed_of (knd := PySem.strKind prog w) (s := { s with heap := h1, toks := tk + 1 }) (k := sg c) (strKind_is _ _ _ _) rfl hS' (by omega) fun h' hsb hS2 => ?_
    have hSi : h'.SetOf (PySem.strKind prog w) S (mem (x.cps.toList.take (i + 1)).reverse) (dnum (x.cps.toList.take (i + 1)).reverse) := by
      refine SetOf_congr hS2 (fun k' => ?_) ?_
      · rw [hrev]
        unfold mem
        rw [List.any_cons, Bool.or_comm]
      · rw [hrev, mem_sg]
        show _ = (if c ∈ (x.cps.toList.take i).reverse then _ else _)
        by_cases hcm : c ∈ (x.cps.toList.take i).reverse
        · rw [if_pos hcm, if_pos (decide_eq_true hcm)]
        · rw [if_neg hcm, if_neg (by simpa using hcm)]
    refine wpAny_pure ⟨plainId_quiet PyProof.Rows.F.plain_set_update_loop _, ih (i + 1) _ (by omega) hlt (W.frame _ h1 _ hst' fun b hb o e => ?_) hSi fun h'' tk'' hm'' hS'' => ?_⟩
    · rw [hsb.2 b (fun h : b = S => hSf (by rw [← h]; exact hb))]; exact e
    · refine hR h'' tk'' (fun b o hb e => ?_) hS''
      refine hm'' b o hb ?_
      show h'.get? b = some o
      rw [hsb.2 b (fun h : b = S => hb (by rw [h]; exact List.mem_cons_self))]
      exact hm b o (fun z => hb (List.mem_cons_of_mem _ z)) e
end
end SD
end Wq
set_option Elab.async false
set_option linter.all false
set_option maxRecDepth 100000
set_option maxHeartbeats 4000000
namespace Wq
open PySem PySem.Spec PyProof.Rows
namespace SD
section
variable {prog : Program} {w : World} {A : Around} {E : Value → Shared → Prop} {s : Shared}
def mtS (led : Bool) : Obj := { cls := .type "set", dict := none, data := .set #[] 0 (.fresh 0 0 led) }
/-- set(text) -/
theorem call_setT {x : Str} {u : Tok} {Q : Value → Shared → Prop} (hh : A.handled = none) (hb : x.cps.size + 1 < scanBound)
    (h : ∀ (h' : Heap) (tk : Nat), h'.SetOf (PySem.strKind prog w) s.heap.objs.size (mem x.cps.toList.reverse) (dnum x.cps.toList.reverse) → (∀ b o, s.heap.get? b = some o → h'.get? b = some o) → Q (.ref s.heap.objs.size) { s with heap := h', toks := tk }) :
    wpAny (model prog w) A (call (.type "set") [.str x u]) Q E s := by
  obtain ⟨hp, g, d, tk0, os⟩ := s
  obtain ⟨cc, tl, hmro⟩ := PySem.F.called_set.mro
  have made := PySem.F.called_set.made
  have subs := PySem.F.called_set.sub
  have g1 := PySem.F.called_set.notType
  have g2 := PySem.F.called_set.canCreate
  have g3 := PySem.F.typeCall_set_1 (.str x u)
  have q0 : (Code.builtin "type.__call__" ⟨[.type "set", .str x u], []⟩).quiet = true := Code.quiet_builtin _ (by decide +kernel)
  refine wpAny_call (codeAny_of_tree (show wpAny _ _ (callAny (.type "set") ⟨[.str x u], []⟩) _ _ _ from wpAny_pure ⟨q0, codeAny_builtin PySem.F.entry_type_call ?_⟩))
  rw [Around.under_plain (weight_type_call_type "set" [.str x u] []) rfl]
  repeat (any_goals (first | assumption | wp_step))
  refine codeAny_mono (code_set_new_1 (.str x u) (E := E) (Q₁ := fun v s1 => ∃ led : Bool, v = .ref hp.objs.size ∧ s1 = ⟨hp.push (mtS led), g, d, tk0, os⟩) fun led => ⟨led, rfl, rfl⟩) fun r s1 hr => ?_
  match r, hr with
  | .error e, hr => exact hr
  | .ok (.ret obj), hr =>
    obtain ⟨led, rfl, rfl⟩ := hr
    have e0 : (hp.push (mtS led)).get? hp.objs.size = some (mtS led) := Heap.get?_push_size _ rfl
    have tS : (⟨hp.push (mtS led), g, d, tk0, os⟩ : Shared).TypeIs (.ref hp.objs.size) "set" := ⟨_, e0, rfl⟩
    have i1 := PySem.F.called_set.init.lookup
    have i2 := PySem.F.called_set.init.bind (.ref hp.objs.size)
    repeat (any_goals (first | assumption | wp_step))
    refine codeAny_mono (codeAny_call_builtin (R := wants (fun v s2 => v = .none ∧ ∃ h' tk, s2 = ⟨h', g, d, tk, os⟩ ∧ h'.SetOf (PySem.strKind prog w) hp.objs.size (mem x.cps.toList.reverse) (dnum x.cps.toList.reverse) ∧ ∀ b o, hp.get? b = some o → h'.get? b = some o) E)
      PySem.F.called_set.init.plain PySem.F.entry_set_init (check_set_init_1 tS ?_)) fun r2 s2 hr2 => ?_
    · have k1 := PySem.F.sub_str_set
      have k2 := PySem.F.sub_str_frozenset
      have k3 : (Value.type "str" == Value.type "dict") = false := by decide
      unfold Builtin.«set.__init__» noKeywords Builtin.Frozenset.updateFrom
      generalize hPI : pyIter = PI
      wp_walk
      subst hPI
      refine wpAny_pyIter_str fun o St hW hst => ?_
      refine wpAny_bind (wpAny_runValue ?_)
      have n1 : hp.objs.size ∉ [(hp.push (mtS led)).objs.size] := by
        rw [Heap.size_push, List.mem_singleton]
        exact Nat.ne_of_lt (Nat.lt_succ_self _)
      refine loopT (hW _ (by simp [hh])) rfl hp.objs.size n1 hb x.cps.size 0 _ (Nat.sub_zero _) (Nat.zero_le _) hst ?_ fun h' tk hk hS => ?_
      · exact SetOf_congr ((PyProof.Rows.setObjOf_fresh (knd := PySem.strKind prog w) led).setOf (Heap.get?_push_of_some _ e0) (by decide)) (fun _ => rfl) rfl
      · refine wpAny_pure (wpAny_pure ⟨rfl, h', tk, rfl, hS, fun b o' e => ?_⟩)
        have lt := Heap.lt_size e
        refine hk b o' (fun z => ?_) (Heap.get?_push_of_some _ (Heap.get?_push_of_some _ e))
        rcases List.mem_cons.mp z with q | q
        · exact absurd q (Nat.ne_of_lt lt)
        · rw [List.mem_singleton] at q
          have q : b = (hp.push (mtS led)).objs.size := q
          rw [Heap.size_push] at q
          exact absurd q (Nat.ne_of_lt (Nat.lt_succ_of_lt lt))
    · match r2, hr2 with
      | .error e, hr2 => exact hr2
      | .ok (.ret v), hr2 =>
        obtain ⟨rfl, h', tk, rfl, q1, q2⟩ := hr2
        repeat (any_goals (first | assumption | wp_step))
        exact h _ _ q1 q2
end
end SD
end Wq
set_option Elab.async false
set_option linter.all false
set_option maxRecDepth 100000
set_option maxHeartbeats 4000000
namespace Wq
open PySem PySem.Spec PyProof.Rows L2
open SD (mem dnum sg)
/-- a set of texts at a: S its members, n their number -/
def SetT (P : Program) (w : World) (a : Addr) (S : Str → Bool) (n : Nat) : HO := .ext fun h => h.SetOf (PySem.strKind P w) a S n
theorem setT_ok {P : Program} {w : World} {H : Hp} {h : Heap} {a : Addr} {S : Str → Bool} {n : Nat} (e : h.SetOf (PySem.strKind P w) a S n) : ObjOk P w H h a (SetT P w a S n) := by
  obtain ⟨o, es, ep, t, ho, r⟩ := e
  exact ⟨⟨o, es, ep, t, ho, r⟩, ⟨o, ho⟩, fun h1 h2 ⟨o1, es1, ep1, t1, h3, r1⟩ k => ⟨o1, es1, ep1, t1, k _ h3, r1⟩⟩
theorem setT_at {P : Program} {w : World} {H : Hp} {h : Heap} {a : Addr} {S : Str → Bool} {n : Nat} (hok : HOk P w H h) (e : H a = some (SetT P w a S n)) : h.SetOf (PySem.strKind P w) a S n := by
  have x : ObjOk P w H h a (.ext fun h => h.SetOf (PySem.strKind P w) a S n) := hok a _ e
  exact x.1
section
variable {X : Cx}
def rSetT (P : Program) (w : World) : List V → Hp → VK → Prop := fun xs H Q => ∃ x : Str, xs = [.str x] ∧ x.cps.size ≤ 4000 ∧ ∀ a, H a = none → Q (.ref a) (upd H a (SetT P w a (mem x.cps.toList.reverse) (dnum x.cps.toList.reverse)))
theorem cr_setT (hc : X.calm = true) : CallR X (.type "set") (rSetT X.prog X.w) := by
  intro pins s σ H xs us Q I r h
  obtain ⟨x, rfl, hl, q⟩ := h
  obtain ⟨u, rfl, t, rfl⟩ := vals1 r
  refine SD.call_setT (I.ok.hd hc) (by show x.cps.size + 1 < 4096; omega) fun h' tk hS hk => ?_
  have hn : H s.heap.objs.size = none := I.hok.fresh (Nat.le_refl _)
  exact ⟨.ref _, _, I.laid (t' := tk) hk (Nat.le_refl _) (setT_ok hS), rfl, q _ hn⟩
def rSubT (P : Program) (w : World) : R2 := fun x y H Q => ∃ (a b : Addr) (S T : Str → Bool) (n m : Nat), x = .ref a ∧ y = .ref b ∧ H a = some (SetT P w a S n) ∧ H b = some (SetT P w b T m) ∧ ¬ n / 4 > m ∧ n < 4096 ∧
  ∀ p R j, H p = none → (j = 0 ↔ ∀ k, S k = true → T k = true) → j < 4096 → Q (.ref p) (upd H p (SetT P w p R j))
theorem op_subT : OpR X (binaryOp .Sub) (rSubT X.prog X.w) := by
  intro pins s σ H x y v u Q I rx ry h
  obtain ⟨a, b, S, T, n, m, rfl, rfl, ha, hb, hnm, hn, q⟩ := h
  cases rx; cases ry
  refine SD.bin_sub (setT_at I.hok ha) (setT_at I.hok hb) hnm hn fun h' R j hS hj hk => ?_
  have hnn : H s.heap.objs.size = none := I.hok.fresh (Nat.le_refl _)
  have hl : j < 4096 := by
    obtain ⟨_, es, _, _, _, _, _, _, _, z, _, e⟩ := hS
    have z : es.size < 4096 := z
    omega
  exact ⟨.ref _, _, I.laid (t' := s.toks) hk (Nat.le_refl _) (setT_ok hS), rfl, q _ R j hnn hj hl⟩
def rLenT (P : Program) (w : World) : List V → Hp → VK → Prop := fun xs H Q => ∃ (a : Addr) (S : Str → Bool) (n : Nat), xs = [.ref a] ∧ H a = some (SetT P w a S n) ∧ Q (.int n) H
theorem call_lenT : CallR X (.builtin "len") (rLenT X.prog X.w) := by
  intro pins s σ H xs us Q I r h
  obtain ⟨a, S, n, rfl, ha, q⟩ := h
  obtain ⟨u, rfl, ru⟩ := vals1 r
  cases ru
  obtain ⟨o, es, ep, t, ho, hex, hd, _, _, hb, hf, hn⟩ := setT_at I.hok ha
  have hb : es.size < 4096 := hb
  refine call_len_set ho hex hd hf (by omega) ⟨.int n, H, I.tok _, ⟨_, by rw [hn]⟩, q⟩
end
end Wq
set_option Elab.async false
set_option linter.all false
set_option maxRecDepth 100000
set_option maxHeartbeats 2000000
/-! exceptions held as values: made, their fields read, isinstance -/
namespace Wq
open PySem PySem.Spec PyProof.Rows L2
/-- x is an exception of the class at C with the fields fs (none: it has no dict) -/
inductive IsX (H : Hp) (C : Addr) : V → List (Str × V) → Prop
  | dict {a d : Addr} {fs : List (Str × V)} : H a = some (exo a C (some d)) → H d = some (exd d fs) → IsX H C (.ref a) fs
  | bare {a : Addr} : H a = some (ExO (.ref C) a) → IsX H C (.ref a) []
section
variable {X : Cx} {pins : List (Addr × Obj)} {σ : L2.St} {H : Hp} {s : Shared}
theorem isX_at {C : Addr} {x : V} {fs : List (Str × V)} {u : Value} (I : Inv X pins σ H s) (h : IsX H C x fs) (r : RelV x u) : ∃ a oe od, u = .ref a ∧ PySem.W.InstAt s.heap a oe C od := by
  cases h with
  | dict ha hd =>
    cases r
    obtain ⟨t1, ho⟩ := exo_at I.hok ha
    obtain ⟨mA, hns, _⟩ := exd_at I.hok hd
    obtain ⟨od, ho2, _⟩ := lookIn_ns hns
    exact ⟨_, _, some od, rfl, ho, rfl, rfl, ho2⟩
  | @bare a ha =>
    cases r
    have z : ObjOk X.prog X.w H s.heap a (ExO (.ref C) a) := I.hok a _ ha
    obtain ⟨oe, vs, ho, hz, hd, _⟩ := z.1
    exact ⟨_, oe, none, rfl, ho, hz.1, by unfold PySem.W.notCls; rw [hd] <;> rfl, by rw [hz.2]; exact trivial⟩
/-- isinstance(x, c), x an exception -/
def rIsX (K : PySem.W.Frag) : List V → Hp → VK → Prop := fun xs H Q => ∃ (x c : V) (C : Addr) (fs : List (Str × V)) (cv : Value) (b : Bool), xs = [x, c] ∧ IsX H C x fs ∧ ExcC K C ∧ ClsV c cv ∧ PySem.W.kitOne K (.ref C) cv = some b ∧ Q (.bl b) H
theorem call_isX : CallR X (.builtin "isinstance") (rIsX X.K) := by
  intro pins s σ H xs us Q I r h
  obtain ⟨x, c, C, fs, cv, b, rfl, hx, T, hc, e, q⟩ := h
  obtain ⟨u1, u2, rfl, r1, r2⟩ := vals2 r
  have e2 := hc.eq r2
  subst e2
  obtain ⟨a, oe, od, rfl, J⟩ := isX_at I hx r1
  exact PySem.W.kia_one (PySem.W.kitx_exc (by obtain ⟨cd, hc, _⟩ := PySem.W.any_some T.hd; rw [hc]; rfl) T.hg T.hk T.hs T.ha T.hn T.ht T.hm) I.kIn J e (fun z => nomatch z) fun tk => ⟨.bl b, H, I.kept (t' := tk) fun _ _ z => z, rfl, q⟩
/-- x.f, x an exception with a dict -/
def tXfV (K : PySem.W.Frag) (f : Str) (te : TE) : TE := fun σ H Q => te σ H fun x H1 => ∃ (C a d : Addr) (fs : List (Str × V)) (v : V), x = .ref a ∧ XfC K C ∧ PySem.W.findIn K (.ref C) f = some none ∧ H1 a = some (exo a C (some d)) ∧ H1 d = some (exd d fs) ∧ fs.lookup f = some v ∧ Q v H1
theorem pe_xfV {e : Expr} {te : TE} {pos : Pos} {f : Str} (he : PE X e te) (hb : attributeBase e f X.env (eval e X.env) = eval e X.env := by rfl) : PE X (.Attribute e f pos) (tXfV X.K f te) := by
  refine ⟨fun pins s σ H Q I h => attr_of hb (thn (he.run pins s σ H _ I h) fun u s1 hh => ?_)⟩
  obtain ⟨x, H1, I1, rx, C, a, d, fs, v, ex, T, hno, ha, hd, l, q⟩ := hh
  subst ex
  obtain rfl : u = Value.ref a := rx
  obtain ⟨t1, ho⟩ := exo_at I1.hok ha
  obtain ⟨mA, hns, hr⟩ := exd_at I1.hok hd
  obtain ⟨od, ho2, hl⟩ := lookIn_ns hns
  obtain ⟨u, hu, ru⟩ := RelO.some_of (v := v) (o := mA f) (by rw [← l]; exact hr f)
  have J : PySem.W.InstAt s1.heap a _ C (some od) := ⟨ho, rfl, rfl, ho2⟩
  exact HandSPX.exc_get I1.kIn J T.ga T.gg T.exC (PySem.W.findObj_own T.hdC hno rfl (by rw [hl, hu])) (handed_of ru) ⟨v, H1, I1.tok _, ru, q⟩
/-- C(e, ..) as a value -/
def tMkX (C : Addr) (sp : Sp) (ta : TA) : TE := fun σ H Q => ta σ H fun vs H1 => vs.length ≤ 1000 ∧ ∀ a, H1 a = none → sp (.ref a :: vs) (upd H1 a (exo a C none)) (fun v H2 => v = .non ∧ Q (.ref a) H2) (fun _ _ _ => False)
theorem pe_mkX {CX : CXT} {x : Str} {e : Expr} {es : List Expr} {ta : TA} {p pos : Pos} {C fI : Addr} {k : Nat} {fd : FuncData} {ps : List Str} {sp : Sp} (T : OexC X.K C) (iC : PySem.W.findIn X.K (.ref C) "__init__" = some (some (.ref fI))) (tI : PySem.W.typeIn X.K (.ref fI) = some (.type "function"))
    (F1 : FnOk X.prog X.w X.K X.mg X.base CX k fI fd ps sp) (hr : Room (k + 1) X.A) (hb : Binds X.K fd ps []) (hx : Passes CX X (fun _ _ _ => False)) (hg : Gl X x) (hm : X.mg x = some (.ref C)) (ha : PA X (e :: es) ta)
    (hdb : (x == ("__debug__" : Str)) = false := by decide) (he : starEach (e :: es) X.env = (false, eval e X.env) :: starEach es X.env := by rfl) (hpl : (backTo pos (starEach es X.env)).any (·.1) = false := by rfl) : PE X (.Call (.Name x p) (e :: es) [] pos) (tMkX C sp ta) := by
  refine ⟨fun pins s σ H Q I h => ?_⟩
  obtain ⟨nm, q, N, bs, bm, sn, sub, ab, col, dd, k0, k1, k2, k3, k5, hC, hbm⟩ := T.cls
  refine wpAny_Call_Name_kw (ld_glob I hg hm (PySem.W.callWith_K (h₀ := X.base) I.ok.mod.kin T.kC (thn (ha.run pos pins s σ H _ I h) fun us s1 ⟨vs, H1, I1, r1, hz, q1⟩ => ⟨I1.kIn, ?_⟩) he hpl) hdb)
  show wpAny _ _ (call (.ref C) us) _ _ _
  obtain ⟨hp, g, dr, tk, os⟩ := s1
  have new : H1 (hp.objs.size + 1) = none := I1.hok.fresh (Nat.le_succ _)
  have hq := q1 (hp.objs.size + 1) new
  have got : ((hp.push (PySem.W.kdv_tup us)).push (PySem.HandSPX.excO C hp.objs.size)).get? (hp.objs.size + 1) = some (PySem.HandSPX.excO C hp.objs.size) := by heap_get
  have J : Inv X pins σ (upd H1 (hp.objs.size + 1) (exo (hp.objs.size + 1) C none)) ⟨(hp.push (PySem.W.kdv_tup us)).push (PySem.HandSPX.excO C hp.objs.size), g, dr, tk, os⟩ :=
    I1.laid (t' := tk) (fun b o z => Heap.get?_push_of_some _ (Heap.get?_push_of_some _ z)) (Nat.le_succ _) (exo_ok got)
  have r2 : Vals (V.ref (hp.objs.size + 1) :: vs) (Value.ref (hp.objs.size + 1) :: us) := .cons rfl r1
  have hl : (Value.ref (hp.objs.size + 1) :: us ++ []).length = ps.length := by
    rw [List.append_nil]
    exact r2.length.symm.trans (F1.len _ _ _ _ hq)
  have hus : us.length ≤ sizeLine := by
    rw [← Paired.length r1, sizeLine_eq]
    omega
  refine wpAny_call (PySem.HandSPX.call_own F.excBase_ValueError (fun Y => PySem.HandSPX.refsVE_contains Y bm hbm) (I1.kIn _ _ hC) (PySem.W.looks_findIn I1.kIn iC) (fun self => PySem.W.bind_fn I1.kIn self tI) hus
    (codeAny_mono (F1.run _ X.stack _ _ ⟨Value.ref (hp.objs.size + 1) :: us, []⟩ _ _ _ (fun _ _ _ => False) (hr.make C us []) (J.env0.make C us []) (hb _ (Value.ref (hp.objs.size + 1) :: us) J.kIn hl) (by rw [List.append_nil]; exact r2) hq) fun r s' hq' => ?_))
  match r, hq' with
  | .error er, hq' => exact hx pins σ _ _ er s' J hq'
  | .ok (.ret u), hq' =>
    obtain ⟨v, H2, os2, bare2, un2, hok2, rv, ⟨ev, q2⟩⟩ := hq'
    subst ev
    exact ⟨rv, .ref _, H2, J.call' (ch := []) os2 un2 hok2 bare2 (fun b z => nomatch z), rfl, q2⟩
/-- C() as a value, C without an own __init__ -/
theorem pe_mkX0 {x : Str} {p pos : Pos} {C : Addr} {bmB : List Value} {B newId initId : String} (F : ExcBaseFacts B newId initId bmB) (q : PySem.W.excIn X.K C bmB newId = true) (gC : X.mg x = some (.ref C)) (kC : PySem.W.keepIn X.K (.ref C) = true) (hg : Gl X x) (hdb : (x == ("__debug__" : Str)) = false := by decide) :
    PE X (.Call (.Name x p) [] [] pos) (fun σ H Q => ∀ a, H a = none → Q (.ref a) (upd H a (ExO (.ref C) a))) := by
  refine ⟨fun pins s σ H Q I h => wpAny_Call_Name_kw (ld_glob I hg gC (PySem.W.callWith_K0 I.kIn kC ?_) hdb)⟩
  obtain ⟨bm, N, nm, qn, bs, hdct, sn, sub, ab, col, dd, k0, k1, k2, k3, k5, mN, hC, hN, hni, T⟩ := exc_obj I.kIn q
  obtain ⟨hp, g, dr, tk, os⟩ := s
  refine wpAny_call_exc_subT F T hC hN hni (fun h' a hm => ?_) (by show 0 ≤ sizeLine; omega)
  have hn : H a = none := I.hok.gone hm.new
  obtain ⟨t, ht, _, _⟩ := hm.there
  exact ⟨.ref a, upd H a (ExO (.ref C) a), I.laidN hm.keeps hm.new hn (exO_ok ht ⟨rfl, rfl⟩ rfl rfl rfl (show 4 < 6 by decide)), rfl, h a hn⟩
end
end Wq
set_option Elab.async false
set_option linter.all false
set_option maxRecDepth 100000
set_option maxHeartbeats 2000000
namespace Wq
open PySem PySem.Spec PyProof.Rows L2
open SD (mem dnum sg)
section
variable {X : Cx}
theorem pgi {x : Str} {n : Int} {t : Tok} {pos : Pos} (hm : X.mg x = some (.int n t)) (hg : Gl X x := by rfl) (hd : (x == ("__debug__" : Str)) = false := by decide) : PE X (.Name x pos) (tC (.int n)) := pe_glob hg hm ⟨_, rfl⟩ hd
theorem pgs {x : Str} {z : Str} {t : Tok} {pos : Pos} (hm : X.mg x = some (.str z t)) (hg : Gl X x := by rfl) (hd : (x == ("__debug__" : Str)) = false := by decide) : PE X (.Name x pos) (tC (.str z)) := pe_glob hg hm ⟨_, rfl⟩ hd
end
def SG : Str := "\n !\"#$&'()*+,-./0123456789:;<=>?@ABCDEFGHIJKLMNOPQRSTUVWXYZ[\\]^_`abcdefghijklmnopqrstuvwxyz{|}~"
def SM : Str := "abcdefghijklmnopqrstuvwxyz"
structure TxtX (mg : Str → Option Value) : Prop where
  isi : mg "isinstance" = none
  str : mg "str" = none
  bool : mg "bool" = none
  set : mg "set" = none
  sg : ∃ t, mg "SIGNS" = some (.str SG t)
  int : mg "int" = none
/-- the law's odd values: what they show, their type -/
inductive OV (K : PySem.W.Frag) (H : Hp) : V → PyData → String → Prop
  | non : OV K H .non .none "NoneType"
  | bl (b : Bool) : OV K H (.bl b) (.bool b) "bool"
  | int (i : Int) : i.natAbs < 1000 → OV K H (.int i) (.int i) "int"
  | str (x : Str) : x.cps.size ≤ 60 → (∀ c ∈ x.cps.toList, c < 128) → OV K H (.str x) (.str x) "str"
  | lst {a : Addr} {x : Str} : H a = some (.lst [.str x]) → a ≠ sysModules → x.cps.size ≤ 60 → (∀ c ∈ x.cps.toList, c < 128) → OV K H (.ref a) (.list [.str x]) "list"
  | tup {a : Addr} {x : Str} : H a = some (.tup [.str x]) → x.cps.size ≤ 60 → (∀ c ∈ x.cps.toList, c < 128) → OV K H (.ref a) (.tuple [.str x]) "tuple"
  | emp {a : Addr} : H a = some (.dK []) → OV K H (.ref a) (.dict []) "dict"
theorem OV.same {K : PySem.W.Frag} {H H' : Hp} {v : V} {d : PyData} {t : String} (h : OV K H v d t) (s : Same H H') : OV K H' v d t := by
  cases h with
  | non => exact .non
  | bl b => exact .bl b
  | int i h => exact .int i h
  | str x h1 h2 => exact .str x h1 h2
  | lst h1 h2 h3 h4 => exact .lst (s _ _ h1) h2 h3 h4
  | tup h1 h2 h3 => exact .tup (s _ _ h1) h2 h3
  | emp h1 => exact .emp (s _ _ h1)
theorem OV.ty {K : PySem.W.Frag} {H : Hp} {v : V} {d : PyData} {t : String} (h : OV K H v d t) : TyX K H v (.type t) := by
  cases h with
  | non => exact .base .non
  | bl b => exact .base (.bl b)
  | int i h => exact .base (.int i)
  | str x h1 h2 => exact .base (.str x)
  | lst h1 h2 h3 h4 => exact .base (.lst h1)
  | tup h1 h2 h3 => exact .base (.tup h1)
  | emp h1 => exact .base (.dK h1)
def isS : PyData → Bool
  | .str _ => true
  | _ => false
def isB : PyData → Bool
  | .bool _ => true
  | _ => false
def isI : PyData → Bool
  | .bool _ => true
  | .int _ => true
  | _ => false
theorem OV.kS {K : PySem.W.Frag} {H : Hp} {v : V} {d : PyData} {t : String} (h : OV K H v d t) : PySem.W.kitOne K (.type t) (.type "str") = some (isS d) := by
  cases h <;> first | exact kit_ty (r := true) (by decide +kernel) | exact kit_ty (r := false) (by decide +kernel)
theorem OV.kI {K : PySem.W.Frag} {H : Hp} {v : V} {d : PyData} {t : String} (h : OV K H v d t) : PySem.W.kitOne K (.type t) (.type "int") = some (isI d) := by
  cases h <;> first | exact kit_ty (r := true) (by decide +kernel) | exact kit_ty (r := false) (by decide +kernel)
theorem OV.kB {K : PySem.W.Frag} {H : Hp} {v : V} {d : PyData} {t : String} (h : OV K H v d t) : PySem.W.kitOne K (.type t) (.type "bool") = some (isB d) := by
  cases h <;> first | exact kit_ty (r := true) (by decide +kernel) | exact kit_ty (r := false) (by decide +kernel)
/-- what the text functions tell -/
def allIn (z : Str) (x : Str) : Bool := x.cps.toList.all fun c => decide (c ∈ z.cps.toList)
def fSign : PyData → Bool
  | .str x => decide (x.cps.size = 1) && allIn SG x
  | _ => false
def fText : PyData → Bool
  | .str x => allIn SG x
  | _ => false
def fRow : PyData → Bool
  | .str x => allIn SG x && (decide (0 < x.cps.size) && (!decide (32 ∈ x.cps.toList) && !decide (10 ∈ x.cps.toList)))
  | _ => false
def fWord : PyData → Bool
  | .str x => fRow (.str x) && decide (x.cps.size ≤ 40)
  | _ => false
def fName : PyData → Bool
  | .str x => decide (1 ≤ x.cps.size) && decide (x.cps.size ≤ 12) && allIn SM x
  | _ => false
def fInt : PyData → Bool := fun d => isI d && !isB d
def spF (K : PySem.W.Frag) (f : PyData → Bool) : Sp := fun vs H Q _ => ∃ (v : V) (d : PyData) (t : String), vs = [v] ∧ OV K H v d t ∧ ∀ H', Same H H' → Q (.bl (f d)) H'
abbrev sText : Stmt := top 6
abbrev sInt : Stmt := top 7
theorem scText : FnScope ["value"] ["value"] (defScope sText) := ⟨rfl, rfl, rfl, by decide +kernel, rfl, by decide +kernel, by decide +kernel⟩
theorem scInt : FnScope ["value"] ["value"] (defScope sInt) := ⟨rfl, rfl, rfl, by decide +kernel, rfl, by decide +kernel, by decide +kernel⟩
theorem szl {x : Str} {n : Nat} (h : x.cps.size ≤ n) (hn : n ≤ 1000 := by decide) : x.length ≤ sizeLine := Nat.le_of_lt (small1000 (Nat.le_trans h hn))
section
variable {P : Program} {w : World} {K : PySem.W.Frag} {mg : Str → Option Value} {base : Heap}
theorem allIn_iff {z x : Str} : allIn z x = true ↔ ∀ k, mem x.cps.toList.reverse k = true → mem z.cps.toList.reverse k = true := by
  unfold allIn
  rw [List.all_eq_true]
  constructor
  · intro h k hk
    unfold SD.mem at hk ⊢
    rw [List.any_eq_true] at hk ⊢
    obtain ⟨c, hc, e⟩ := hk
    refine ⟨c, ?_, e⟩
    rw [List.mem_reverse] at hc ⊢
    exact of_decide_eq_true (h c hc)
  · intro h c hc
    have := h (sg c) (by rw [SD.mem_sg]; exact decide_eq_true (List.mem_reverse.mpr hc))
    rw [SD.mem_sg] at this
    exact decide_eq_true (List.mem_reverse.mp (of_decide_eq_true this))
theorem dn_le {x : Str} : dnum x.cps.toList.reverse ≤ x.cps.size := by
  have := SD.dnum_le x.cps.toList.reverse
  rw [List.length_reverse, Array.length_toList] at this
  exact this
theorem SG_dn : dnum SG.cps.toList.reverse = 95 := by decide +kernel
theorem SM_dn : dnum SM.cps.toList.reverse = 26 := by decide +kernel
theorem SG_sz : SG.cps.size = 95 := by decide +kernel
theorem SM_sz : SM.cps.size = 26 := by decide +kernel
theorem ok_Text (D : DefAt K mg "is_text" sText) (T : Txt K mg) (TX : TxtX mg) : Cl P w K mg base 1 "is_text" (spF K fText) := by
  obtain ⟨t1, TX1⟩ := TX.sg
  refine cl_of D scText (fun vs H Q E h => ?_) (fun _ _ _ _ _ _ us hl => match us, hl with | [_], _ => rfl) (fun f cdv A outer s H vs Q E hr h => ?_)
  · obtain ⟨v, d, t, rfl, _⟩ := h
    rfl
  · obtain ⟨v, d, t, rfl, hv, k⟩ := h
    refine ⟨_, pss_one (ps_ret (pe_and (pe_callB call_isi (by rfl) (by exact TX.isi) (by decide +kernel) (pa_cons (pv 0) (pa_cons (pe_bltn rfl (by exact TX.str) (by decide +kernel) (v := .ty "str") rfl) pa_nil))) (pe_one (pe_cmpR op_eq (pe_callB call_lenT (by rfl) (by exact T.len) PySem.boot_len (pa_cons (pe_op op_subT (pe_callTy (cr_setT rfl) (by rfl) (by exact TX.set) (by decide +kernel) (pa_cons (pv 0) pa_nil)) (pe_callTy (cr_setT rfl) (by rfl) (by exact TX.set) (by decide +kernel) (pa_cons (pgs (by exact TX1)) pa_nil))) pa_nil)) pe_int (nomark _))))), ?_⟩
    refine ⟨_, rfl, v, .ty "str", _, _, _, rfl, .ty "str", hv.ty, hv.kS, _, rfl, ?_⟩
    have kk := k H (.refl H)
    refine ite2 (fun hi => ?_) (fun hi => ?_)
    · cases hv <;> try (cases hi; done)
      rename_i x hx ha
      refine ⟨_, rfl, x, rfl, by omega, fun a1 h1 => ⟨SG, rfl, by rw [SG_sz]; decide, fun a2 h2 => ?_⟩⟩
      have s1 : Same H (upd H a1 (SetT P w a1 (mem x.cps.toList.reverse) (dnum x.cps.toList.reverse))) := fun b o e => by rw [upd_ne (ne_of_none e h1)]; exact e
      have n12 : a1 ≠ a2 := ne_of_none upd_same h2
      refine ⟨a1, a2, _, _, _, _, rfl, rfl, by rw [upd_ne n12]; exact upd_same, upd_same, ?_, ?_, fun p R j hp hj hl => ?_⟩
      · have := dn_le (x := x)
        rw [SG_dn]
        omega
      · have := dn_le (x := x)
        omega
      refine ⟨p, R, j, rfl, upd_same, rfl, ?_⟩
      have s2 : Same H (upd (upd (upd H a1 (SetT P w a1 (mem x.cps.toList.reverse) (dnum x.cps.toList.reverse))) a2 (SetT P w a2 (mem SG.cps.toList.reverse) (dnum SG.cps.toList.reverse))) p (SetT P w p R j)) := fun b o e => by
        have e1 := s1 b o e
        rw [upd_ne (ne_of_none (by rw [upd_ne (ne_of_none e1 h2)]; exact e1) hp), upd_ne (ne_of_none e1 h2)]
        exact e1
      have e : fText (.str x) = decide (V.int ((j : Nat) : Int) = V.int 0) := by
        show allIn SG x = _
        rw [Bool.eq_iff_iff, allIn_iff, ← hj]
        simp
      have kk := k _ s2
      rw [e] at kk
      exact kk
    · cases hv <;> first | exact kk | exact absurd rfl hi
theorem ok_Int (D : DefAt K mg "is_integer" sInt) (T : Txt K mg) (TX : TxtX mg) : Cl P w K mg base 1 "is_integer" (spF K fInt) := by
  refine cl_of D scInt (fun vs H Q E h => ?_) (fun _ _ _ _ _ _ us hl => match us, hl with | [_], _ => rfl) (fun f cdv A outer s H vs Q E hr h => ?_)
  · obtain ⟨v, d, t, rfl, _⟩ := h
    rfl
  · obtain ⟨v, d, t, rfl, hv, k⟩ := h
    refine ⟨_, pss_one (ps_ret (pe_and (pe_callB call_isi (by rfl) (by exact TX.isi) (by decide +kernel) (pa_cons (pv 0) (pa_cons (pe_bltn rfl (by exact TX.int) (by decide +kernel) (v := .ty "int") rfl) pa_nil))) (pe_one (pe_not (pe_callB call_isi (by rfl) (by exact TX.isi) (by decide +kernel) (pa_cons (pv 0) (pa_cons (pe_bltn rfl (by exact TX.bool) (by decide +kernel) (v := .ty "bool") rfl) pa_nil))))))), ?_⟩
    refine ⟨_, rfl, v, .ty "int", _, _, _, rfl, .ty "int", hv.ty, hv.kI, _, rfl, ?_⟩
    have kk := k H (.refl H)
    refine ite2 (fun hi => ?_) (fun hi => ?_)
    · refine ⟨_, rfl, v, .ty "bool", _, _, _, rfl, .ty "bool", hv.ty, hv.kB, _, rfl, ?_⟩
      unfold fInt at kk
      rw [hi] at kk
      exact kk
    · unfold fInt at kk
      rw [eq_false_of_ne_true hi] at kk
      exact kk
end
end Wq
set_option Elab.async false
set_option linter.all false
set_option maxRecDepth 100000
set_option maxHeartbeats 2000000
/-! the errors -/
namespace Wq
open PySem PySem.Spec PyProof.Rows L2
abbrev nI (n : Nat) : V := .int (n : Int)
theorem Same.new {H : Hp} {p : Addr} {o : HO} (h : H p = none) : Same H (upd H p o) := fun b u e => by
  rw [upd_ne (ne_of_none e h)]
  exact e
theorem Same.put {H H' : Hp} {p : Addr} {o : HO} (s : Same H H') (h : H p = none) : Same H (upd H' p o) := fun b u e => by
  rw [upd_ne (ne_of_none e h)]
  exact s _ _ e
theorem pss_pre {X : Cx} {b : List Stmt} {t t' : TS} (h : PSs X b t) (i : ∀ D σ H, t' D σ H → t D σ H) : PSs X b t' := ⟨fun pins s σ H D I q => h.run pins s σ H D I (i D σ H q)⟩
/-- what is never reached -/
def tNever : TS := fun _ _ _ => False
theorem pss_never {X : Cx} {b : List Stmt} : PSs X b tNever := ⟨fun _ _ _ _ _ _ q => q.elim⟩
theorem ps_never {X : Cx} {b : Stmt} : PS X b tNever := ⟨fun _ _ _ _ _ _ q => q.elim⟩
/-- callables with promises that let errors out -/
structure Cle (P : Program) (w : World) (K : PySem.W.Frag) (mg : Str → Option Value) (base : Heap) (k : Nat) (x : Str) (sp : Sp) : Prop where
  ex : ∃ (f : Addr) (fd : FuncData) (ps : List Str), FnOk P w K mg base (L2.CX P w) k f fd ps sp ∧ mg x = some (.ref f) ∧ PySem.W.keepIn K (.ref f) = true ∧ Binds K fd ps []
/-! methods -/
structure MAt (K : PySem.W.Frag) (C : Addr) (m qual : Str) (st : Stmt) : Prop where
  ex : ∃ (f : Addr) (fd : FuncData), Fun K m qual st f fd ∧ Meth K C m f
theorem m_mk {K : PySem.W.Frag} {C : Addr} {m qual : Str} {st : Stmt} {f : Addr} {oc : Value} {od an : Option Addr} {osl : Array (Option Value)} {kV doc pm cdv ct : Value}
    (a : PySem.W.findIn K (.ref C) m = some (some (.ref f))) (i : PySem.W.isFn K (.ref f) = true) (l : K.lookup f = some ⟨oc, od, .func (PySem.W.fnOf m qual (defArgs st) (defBody st) (defScope st) .none kV doc pm an cdv ct), osl⟩)
    (c : PySem.W.codeIn K cdv qual = true) (k : PySem.W.keepIn K (.ref f) = true) : MAt K C m qual st := ⟨f, _, fun_mk l c k, ⟨a, i, k⟩⟩
/-- the method m of the class at C -/
def MthX (P : Program) (w : World) (K : PySem.W.Frag) (mg : Str → Option Value) (base : Heap) (CX : CXT) (C : Addr) (m : Str) (k : Nat) (ps : List Str) (sp : Sp) : Prop :=
  ∃ f fd, Meth K C m f ∧ FnOk P w K mg base CX k f fd ps sp ∧ Binds K fd ps []
/-! errors with two fields -/
structure TxtE (K : PySem.W.Frag) (mg : Str → Option Value) (CE fI : Addr) (x f1 f2 : Str) : Prop where
  ox : OexC K CE
  n1 : PySem.W.findIn K (.ref CE) f1 = some none
  n2 : PySem.W.findIn K (.ref CE) f2 = some none
  iC : PySem.W.findIn K (.ref CE) "__init__" = some (some (.ref fI))
  tI : PySem.W.typeIn K (.ref fI) = some (.type "function")
  gC : mg x = some (.ref CE)
  xf : XfC K CE
  te : PySem.W.exmOne K (.ref CE) (.ref CE) = some true
def spE2 (CE : Addr) (f1 f2 : Str) : Sp := fun vs H Q _ => ∃ (a : Addr) (v1 v2 : V), vs = [.ref a, v1, v2] ∧ H a = some (exo a CE none) ∧ ∀ d, H d = none → d ≠ a → Q .non (upd (upd (upd H d (exd d [(f1, v1)])) a (exo a CE (some d))) d (exd d [(f2, v2), (f1, v1)]))
/-- an error is out: its fields -/
def Err2 (H H' : Hp) (d : Addr) (fs : List (Str × V)) : Prop := Same H H' ∧ H d = none ∧ H' d = some (.xd fs)
theorem err2_heap {H : Hp} {a d CE : Addr} {f1 f2 : Str} {v1 v2 : V} (ha : H a = none) (hd : (upd H a (exo a CE none)) d = none) (hda : d ≠ a) :
    Err2 H (upd (del (upd (upd (upd (upd H a (exo a CE none)) d (exd d [(f1, v1)])) a (exo a CE (some d))) d (exd d [(f2, v2), (f1, v1)])) a) d (.xd [(f2, v2), (f1, v1)])) d [(f2, v2), (f1, v1)] := by
  have hd' : H d = none := by rw [upd_ne hda] at hd; exact hd
  refine ⟨fun b o e => ?_, hd', upd_same⟩
  have hba : b ≠ a := ne_of_none e ha
  have hbd : b ≠ d := ne_of_none e hd'
  rw [upd_ne hbd, del_ne hba, upd_ne hbd, upd_ne hba, upd_ne hbd, upd_ne hba]
  exact e
structure TxtF (K : PySem.W.Frag) (mg : Str → Option Value) (CE fI : Addr) : Prop where
  ox : OexC K CE
  nN : PySem.W.findIn K (.ref CE) "index" = some none
  iC : PySem.W.findIn K (.ref CE) "__init__" = some (some (.ref fI))
  tI : PySem.W.typeIn K (.ref fI) = some (.type "function")
  gC : mg "BadRows" = some (.ref CE)
  xf : XfC K CE
  te : PySem.W.exmOne K (.ref CE) (.ref CE) = some true
def spRw (CE : Addr) : Sp := fun vs H Q _ => ∃ (a : Addr) (v : V), vs = [.ref a, v] ∧ H a = some (exo a CE none) ∧ ∀ d, H d = none → d ≠ a → Q .non (upd (upd H d (exd d [("index", v)])) a (exo a CE (some d)))
def ErrN (H H' : Hp) (d : Addr) (v : V) : Prop := Same H H' ∧ H d = none ∧ H' d = some (.xd [("index", v)])
theorem errN_heap {H : Hp} {a d CE : Addr} {v : V} (ha : H a = none) (hd : (upd H a (exo a CE none)) d = none) (hda : d ≠ a) : ErrN H (upd (del (upd (upd (upd H a (exo a CE none)) d (exd d [("index", v)])) a (exo a CE (some d))) a) d (.xd [("index", v)])) d v := by
  have hd' : H d = none := by rw [upd_ne hda] at hd; exact hd
  refine ⟨fun b o e => ?_, hd', upd_same⟩
  have hba : b ≠ a := ne_of_none e ha
  have hbd : b ≠ d := ne_of_none e hd'
  rw [upd_ne hbd, del_ne hba, upd_ne hba, upd_ne hbd, upd_ne hba]
  exact e
theorem ErrN.mono {H H1 H2 : Hp} {d : Addr} {v : V} (s : Same H H1) (h : ErrN H1 H2 d v) : ErrN H H2 d v := by
  refine ⟨s.trans h.1, ?_, h.2.2⟩
  cases e : H d with
  | none => rfl
  | some o =>
    have := s _ _ e
    rw [h.2.1] at this
    cases this
abbrev sBN : Stmt := inClass (top 2) 0
abbrev sBR : Stmt := inClass (top 3) 0
theorem scBN : FnScope ["self", "what", "number"] ["self", "what", "number"] (defScope sBN) := ⟨rfl, rfl, rfl, by decide +kernel, rfl, by decide +kernel, by decide +kernel⟩
theorem scBR : FnScope ["self", "index"] ["self", "index"] (defScope sBR) := ⟨rfl, rfl, rfl, by decide +kernel, rfl, by decide +kernel, by decide +kernel⟩
section
variable {P : Program} {w : World} {K : PySem.W.Frag} {mg : Str → Option Value} {base : Heap} {C CE fI : Addr}
theorem ok_BN {fd : FuncData} (F : Fun K "__init__" "BadNumber.__init__" sBN fI fd) (T : TxtE K mg CE fI "BadNumber" "what" "number") : FnOk P w K mg base CX0 1 fI fd ["self", "what", "number"] (spE2 CE "what" "number") := by
  refine F.ok scBN (fun vs H Q E h => ?_) (fun cdv A outer s H vs Q E hr h => ?_)
  · obtain ⟨a, v1, v2, rfl, _⟩ := h
    rfl
  · obtain ⟨a, v1, v2, rfl, ha, k⟩ := h
    refine ⟨_, pss_cons (ps_ost (pv 0) (pv 1)) (pss_one (ps_ost (pv 0) (pv 2))), _, rfl, _, rfl, a, CE, rfl, T.ox, T.n1, .inl ⟨ha, fun dx n ne => ?_⟩⟩
    exact ⟨_, rfl, _, rfl, a, CE, rfl, T.ox, T.n2, .inr ⟨dx, _, upd_same, by rw [upd_ne ne]; exact upd_same, by show 1 ≤ 900; decide, k dx n ne⟩⟩
theorem ok_BR {fd : FuncData} (F : Fun K "__init__" "BadRows.__init__" sBR fI fd) (T : TxtF K mg CE fI) : FnOk P w K mg base CX0 1 fI fd ["self", "index"] (spRw CE) := by
  refine F.ok scBR (fun vs H Q E h => ?_) (fun cdv A outer s H vs Q E hr h => ?_)
  · obtain ⟨a, v, rfl, _⟩ := h
    rfl
  · obtain ⟨a, v, rfl, ha, k⟩ := h
    exact ⟨_, pss_one (ps_ost (pv 0) (pv 1)), _, rfl, _, rfl, a, CE, rfl, T.ox, T.nN, .inl ⟨ha, fun dx n ne => k dx n ne⟩⟩
end
end Wq
set_option Elab.async false
set_option linter.all false
/-! what is told of kinds, without a heap -/
namespace Kd
open PySem
abbrev Rw := Str × Int
structure Pt where
  rows : List Rw
  whole : Bool
def lt (a b : Str) : Bool := decide (a.cps.toList < b.cps.toList)
theorem str_ext {a b : Str} (h : a.cps.toList = b.cps.toList) : a = b := by
  cases a
  cases b
  congr 1
  exact Array.ext' h
theorem lt_total {a b : Str} (h : a ≠ b) (h2 : lt a b = false) : lt b a = true := by
  unfold lt at *
  have h2 := of_decide_eq_false h2
  refine decide_eq_true ?_
  by_cases h3 : b.cps.toList < a.cps.toList
  · exact h3
  · exact absurd (str_ext (List.le_antisymm (List.not_lt.mp h3) (List.not_lt.mp h2))) h
theorem lt_asymm {a b : Str} (h : lt a b = true) : lt b a = false := by
  unfold lt at *
  have h := of_decide_eq_true h
  exact decide_eq_false fun z => List.lt_asymm h z
theorem lt_irrefl (a : Str) : lt a a = false := decide_eq_false (List.lt_irrefl _)
def told (p : Pt) (x : Str) : Option Int := (p.rows.find? fun r => decide (r.1 = x)).map (·.2)
def most (p : Pt) (x : Option Str) : Option Int :=
  match x.bind (told p) with
  | some m => some m
  | none => if p.whole then some 0 else match p.rows.getLast? with
    | none => none
    | some r => match x with
      | none => some r.2
      | some t => if lt r.1 t then some r.2 else some (r.2 - 1)
def lm (p : Pt) (x : Str) : Int :=
  match told p x with
  | some m => m
  | none => if p.whole then 0 else match p.rows.getLast? with
    | none => 99
    | some r => r.2 - (if lt x r.1 then 1 else 0)
structure Ok (p : Pt) : Prop where
  num : ∀ r ∈ p.rows, 1 ≤ r.2 ∧ r.2 ≤ 4
theorem told_mem {p : Pt} {x : Str} {m : Int} (h : told p x = some m) : (x, m) ∈ p.rows := by
  unfold told at h
  cases e : p.rows.find? fun r => decide (r.1 = x) with
  | none => rw [e] at h; cases h
  | some r =>
    rw [e] at h
    have h1 := List.mem_of_find?_eq_some e
    have h2 := List.find?_some e
    have h2 : r.1 = x := by simpa using h2
    obtain rfl := Option.some.inj h
    rw [← h2]
    exact h1
theorem told_none {p : Pt} {x : Str} (h : told p x = none) : ∀ r ∈ p.rows, r.1 ≠ x := by
  intro r hr e
  unfold told at h
  cases e2 : p.rows.find? fun r => decide (r.1 = x) with
  | some r => rw [e2] at h; cases h
  | none =>
    have := List.find?_eq_none.mp e2 r hr
    exact this (decide_eq_true e)
theorem most_lm {p : Pt} (ok : Ok p) (x : Str) : (most p (some x)).getD 99 = lm p x ∧ ∀ m, most p (some x) = some m → 0 ≤ m ∧ m ≤ 4 := by
  unfold most lm
  show (match told p x with | some m => _ | none => _ : Option Int).getD 99 = _ ∧ ∀ m, (match told p x with | some m => _ | none => _ : Option Int) = _ → _
  cases e : told p x with
  | some m =>
    have := ok.num _ (told_mem e)
    refine ⟨rfl, fun n h => ?_⟩
    obtain rfl := Option.some.inj h
    simp only at this
    omega
  | none =>
    cases hw : p.whole with
    | true => exact ⟨rfl, fun n h => by obtain rfl := Option.some.inj h; decide⟩
    | false =>
      cases hl : p.rows.getLast? with
      | none => exact ⟨rfl, fun n h => by cases h⟩
      | some r =>
        have hr : r ∈ p.rows := List.mem_of_getLast? hl
        have hn := told_none e r hr
        have hb := ok.num r hr
        show (if lt r.1 x = true then some r.2 else some (r.2 - 1)).getD 99 = _ ∧ ∀ m, (if lt r.1 x = true then some r.2 else some (r.2 - 1)) = _ → _
        cases h1 : lt r.1 x with
        | true =>
          refine ⟨by simp [lt_asymm h1], fun n h => ?_⟩
          obtain rfl := Option.some.inj h
          omega
        | false =>
          refine ⟨by simp [lt_total hn h1], fun n h => ?_⟩
          obtain rfl := Option.some.inj h
          omega
theorem most_none {p : Pt} (ok : Ok p) : ∀ m, most p none = some m → 0 ≤ m ∧ m ≤ 4 := by
  intro m h
  unfold most at h
  simp only [Option.bind_none] at h
  cases hw : p.whole with
  | true => rw [hw] at h; obtain rfl := Option.some.inj h; decide
  | false =>
    rw [hw] at h
    cases hl : p.rows.getLast? with
    | none => rw [hl] at h; cases h
    | some r =>
      rw [hl] at h
      obtain rfl := Option.some.inj h
      have := ok.num r (List.mem_of_getLast? hl)
      omega
/-- a text that no part tells and that lies behind all last ones -/
theorem lm_none {p : Pt} {z : Str} (h : told p z = none) (h2 : ∀ r ∈ p.rows, lt z r.1 = false) : lm p z = (most p none).getD 99 := by
  unfold lm most
  rw [h]
  simp only [Option.bind_none]
  cases hw : p.whole with
  | true => rfl
  | false =>
    cases hl : p.rows.getLast? with
    | none => rfl
    | some r =>
      simp only [h2 r (List.mem_of_getLast? hl)]
      simp
def sumO (l : List (Option Int)) : Option Int := if none ∈ l then none else some ((l.map fun o => o.getD 0).sum)
theorem tally : ∀ l : List (Option Int), (∀ o ∈ l, ∀ m, o = some m → 0 ≤ m ∧ m ≤ 4) →
    0 ≤ (l.map fun o => o.getD 99).sum ∧ (none ∈ l → 99 ≤ (l.map fun o => o.getD 99).sum) ∧ (none ∉ l → (l.map fun o => o.getD 99).sum = (l.map fun o => o.getD 0).sum ∧ (l.map fun o => o.getD 0).sum ≤ 4 * l.length)
  | [], _ => ⟨by decide, fun h => (by cases h), fun _ => ⟨rfl, by decide⟩⟩
  | o :: l, h => by
    obtain ⟨h0, h1, h2⟩ := tally l fun o ho => h o (List.mem_cons_of_mem _ ho)
    have hh := h o List.mem_cons_self
    simp only [List.map_cons, List.sum_cons, List.length_cons, List.mem_cons]
    cases o with
    | none =>
      refine ⟨by simp only [Option.getD_none]; omega, fun _ => by simp only [Option.getD_none]; omega, fun z => absurd (.inl rfl) z⟩
    | some m =>
      have := hh m rfl
      simp only [Option.getD_some]
      refine ⟨by omega, fun z => ?_, fun z => ?_⟩
      · rcases z with z | z
        · cases z
        · have := h1 z
          omega
      · have := h2 fun y => z (.inr y)
        omega
def least (ps : List Pt) (x : Str) : Int := (ps.map fun p => (told p x).getD 0).sum
def mostO (ps : List Pt) (x : Option Str) : Option Int := sumO (ps.map fun p => most p x)
def lmost (ps : List Pt) (x : Str) : Int := (ps.map fun p => lm p x).sum
def below (n b : Option Int) : Bool := match b with
  | none => true
  | some b => match n with
    | none => false
    | some n => decide (n < b)
def ahead (ys : List Str) (x : Str) (f : Str → Option Int) (b : Option Int) : Nat := (ys.filter fun o => decide (o ≠ x) && !below (f o) b).length
def sureL (ys : List Str) (ps : List Pt) (k : Int) : List Str :=
  ys.filter fun x => below (mostO ps none) (some (least ps x)) && decide ((ahead ys x (fun o => mostO ps (some o)) (some (least ps x)) : Int) < k)
def openL (ys : List Str) (ps : List Pt) (k : Int) : List Str :=
  ys.filter fun x => !decide (x ∈ sureL ys ps k) && decide ((ahead ys x (fun o => some (least ps o)) (mostO ps (some x)) : Int) < k)
/-- the law's own -/
def lsure (ys zs : List Str) (ps : List Pt) (k : Int) (x : Str) : Bool := decide ((((ys ++ zs).filter fun o => decide (o ≠ x) && decide (least ps x ≤ lmost ps o)).length : Int) < k)
def lopen (ys : List Str) (ps : List Pt) (k : Int) (x : Str) : Bool := decide (((ys.filter fun o => decide (o ≠ x) && decide (lmost ps x ≤ least ps o)).length : Int) < k) || decide (98 < lmost ps x)
section
variable {ps : List Pt} (ok : ∀ p ∈ ps, Ok p) (few : ps.length ≤ 3)
include ok
theorem least_le (x : Str) : least ps x ≤ 4 * ps.length := by
  unfold least
  induction ps with
  | nil => exact Int.le_refl 0
  | cons p ps ih =>
    have := ih fun q hq => ok q (List.mem_cons_of_mem _ hq)
    simp only [List.map_cons, List.sum_cons, List.length_cons]
    have h : (told p x).getD 0 ≤ 4 := by
      cases e : told p x with
      | none => decide
      | some m => exact ((ok p List.mem_cons_self).num _ (told_mem e)).2
    omega
theorem lmost_eq (x : Str) : lmost ps x = ((ps.map fun p => most p (some x)).map fun o => o.getD 99).sum := by
  unfold lmost
  rw [List.map_map]
  congr 1
  exact List.map_congr_left fun p hp => ((most_lm (ok p hp) x).1).symm
theorem mostO_some (x : Str) : (mostO ps (some x) = none ∧ 99 ≤ lmost ps x) ∨ (mostO ps (some x) = some (lmost ps x) ∧ lmost ps x ≤ 4 * ps.length) := by
  have t := tally (ps.map fun p => most p (some x)) fun o ho m hm => by
    obtain ⟨p, hp, e⟩ := List.mem_map.mp ho
    exact (most_lm (ok p hp) x).2 m (e.trans hm)
  rw [← lmost_eq ok x, List.length_map] at t
  unfold mostO sumO
  by_cases h : none ∈ ps.map fun p => most p (some x)
  · rw [if_pos h]
    exact .inl ⟨rfl, t.2.1 h⟩
  · rw [if_neg h]
    obtain ⟨e1, e2⟩ := t.2.2 h
    exact .inr ⟨congrArg some e1.symm, by omega⟩
theorem below_most (x : Str) (b : Int) (hb : b ≤ 99) : (!below (mostO ps (some x)) (some b)) = decide (b ≤ lmost ps x) := by
  rcases mostO_some ok x with ⟨e, h⟩ | ⟨e, h⟩
  · rw [e]
    show true = _
    exact (decide_eq_true (by omega)).symm
  · rw [e]
    show (!decide (lmost ps x < b)) = _
    by_cases h : lmost ps x < b
    · rw [decide_eq_true h, decide_eq_false (by omega)]
      rfl
    · rw [decide_eq_false h, decide_eq_true (by omega)]
      rfl
theorem below_none {z : Str} (hz : ∀ p ∈ ps, told p z = none ∧ ∀ r ∈ p.rows, lt z r.1 = false) (b : Int) (hb : b ≤ 99) : (!below (mostO ps none) (some b)) = decide (b ≤ lmost ps z) := by
  have t := tally (ps.map fun p => most p none) fun o ho m hm => by
    obtain ⟨p, hp, e⟩ := List.mem_map.mp ho
    exact most_none (ok p hp) m (e.trans hm)
  have e0 : lmost ps z = ((ps.map fun p => most p none).map fun o => o.getD 99).sum := by
    unfold lmost
    rw [List.map_map]
    congr 1
    exact List.map_congr_left fun p hp => lm_none (hz p hp).1 (hz p hp).2
  rw [← e0] at t
  unfold mostO sumO
  by_cases h : none ∈ ps.map fun p => most p none
  · rw [if_pos h]
    show true = _
    exact (decide_eq_true (by have := t.2.1 h; omega)).symm
  · rw [if_neg h]
    obtain ⟨e1, e2⟩ := t.2.2 h
    rw [← e1]
    show (!decide (lmost ps z < b)) = _
    by_cases h : lmost ps z < b
    · rw [decide_eq_true h, decide_eq_false (by omega)]
      rfl
    · rw [decide_eq_false h, decide_eq_true (by omega)]
      rfl
include few
theorem sure_eq {ys zs : List Str} {k : Int} (hk : 1 ≤ k) (hzl : (zs.length : Int) = k) (hz : ∀ z ∈ zs, z ∉ ys ∧ ∀ p ∈ ps, told p z = none ∧ ∀ r ∈ p.rows, lt z r.1 = false) {x : Str} (hx : x ∈ ys) :
    (below (mostO ps none) (some (least ps x)) && decide ((ahead ys x (fun o => mostO ps (some o)) (some (least ps x)) : Int) < k)) = lsure ys zs ps k x := by
  have hb : least ps x ≤ 99 := by have := least_le ok x; omega
  unfold lsure ahead
  rw [List.filter_append, List.length_append]
  have e1 : (ys.filter fun o => decide (o ≠ x) && !below (mostO ps (some o)) (some (least ps x))) = ys.filter fun o => decide (o ≠ x) && decide (least ps x ≤ lmost ps o) :=
    List.filter_congr fun o _ => by rw [below_most ok o _ hb]
  rw [e1]
  obtain ⟨z, hz1⟩ : ∃ z, z ∈ zs := List.exists_mem_of_length_pos (by omega)
  have hn := below_none ok (hz z hz1).2 (least ps x) hb
  cases hbn : below (mostO ps none) (some (least ps x)) with
  | true =>
    have e2 : (zs.filter fun o => decide (o ≠ x) && decide (least ps x ≤ lmost ps o)) = [] := by
      refine List.filter_eq_nil_iff.mpr fun o ho => ?_
      have := below_none ok (hz o ho).2 (least ps x) hb
      rw [hbn] at this
      rw [← this]
      simp
    rw [e2]
    simp
  | false =>
    have e2 : (zs.filter fun o => decide (o ≠ x) && decide (least ps x ≤ lmost ps o)) = zs := by
      refine List.filter_eq_self.mpr fun o ho => ?_
      have := below_none ok (hz o ho).2 (least ps x) hb
      rw [hbn] at this
      have ne : o ≠ x := fun e => (hz o ho).1 (e ▸ hx)
      rw [← this, decide_eq_true ne]
      rfl
    rw [e2, Bool.false_and]
    exact (decide_eq_false (by omega)).symm
theorem open_eq {ys : List Str} {k : Int} (hk : 1 ≤ k) (x : Str) :
    decide ((ahead ys x (fun o => some (least ps o)) (mostO ps (some x)) : Int) < k) = lopen ys ps k x := by
  unfold lopen ahead
  rcases mostO_some ok x with ⟨e, h⟩ | ⟨e, h⟩
  · rw [e, decide_eq_true (show 98 < lmost ps x by omega), Bool.or_true]
    refine decide_eq_true ?_
    have e2 : (ys.filter fun o => decide (o ≠ x) && !below (some (least ps o)) none) = [] := List.filter_eq_nil_iff.mpr fun o _ => by
      show ¬(decide (o ≠ x) && !true) = true
      simp
    rw [e2]
    show (0 : Int) < k
    omega
  · rw [e, decide_eq_false (show ¬98 < lmost ps x by omega), Bool.or_false]
    have e2 : (ys.filter fun o => decide (o ≠ x) && !below (some (least ps o)) (some (lmost ps x))) = ys.filter fun o => decide (o ≠ x) && decide (lmost ps x ≤ least ps o) :=
      List.filter_congr fun o _ => by
        congr 1
        show (!decide (least ps o < lmost ps x)) = _
        by_cases h : least ps o < lmost ps x
        · rw [decide_eq_true h, decide_eq_false (by omega)]
          rfl
        · rw [decide_eq_false h, decide_eq_true (by omega)]
          rfl
    rw [e2]
end
theorem sum_rev (l : List Int) : l.reverse.sum = l.sum := by
  induction l with
  | nil => rfl
  | cons a l ih =>
    rw [List.reverse_cons, List.sum_append, ih, List.sum_cons, List.sum_cons, List.sum_nil]
    omega
theorem least_rev (ps : List Pt) (x : Str) : least ps.reverse x = least ps x := by
  unfold least
  rw [List.map_reverse, sum_rev]
theorem mostO_rev (ps : List Pt) (x : Option Str) : mostO ps.reverse x = mostO ps x := by
  unfold mostO sumO
  rw [List.map_reverse, List.map_reverse, sum_rev]
  by_cases h : none ∈ ps.map fun p => most p x
  · rw [if_pos h, if_pos (List.mem_reverse.mpr h)]
  · rw [if_neg h, if_neg fun z => h (List.mem_reverse.mp z)]
theorem sure_rev (ys : List Str) (ps : List Pt) (k : Int) : sureL ys ps.reverse k = sureL ys ps k := by
  unfold sureL
  simp only [least_rev, mostO_rev]
theorem open_rev (ys : List Str) (ps : List Pt) (k : Int) : openL ys ps.reverse k = openL ys ps k := by
  unfold openL
  simp only [sure_rev, least_rev, mostO_rev]
/-- a way in which the parts go on -/
theorem way_ok {pool : List Str} {ps : List Pt} {k : Int} {x : Str} {tot : Str → Int} (hu : ∀ o ∈ pool, tot o ≤ lmost ps o) (hx : least ps x ≤ tot x)
    (h : ((pool.filter fun o => decide (o ≠ x) && decide (least ps x ≤ lmost ps o)).length : Int) < k) : ((pool.filter fun o => decide (o ≠ x) && decide (tot x ≤ tot o)).length : Int) < k := by
  refine Int.lt_of_le_of_lt (Int.ofNat_le.mpr ?_) h
  have e : (pool.filter fun o => decide (o ≠ x) && decide (tot x ≤ tot o)) = (pool.filter fun o => decide (o ≠ x) && decide (least ps x ≤ lmost ps o)).filter fun o => decide (o ≠ x) && decide (tot x ≤ tot o) := by
    rw [List.filter_filter]
    refine List.filter_congr fun o ho => ?_
    have := hu o ho
    by_cases h1 : o = x
    · simp [h1]
    · by_cases h2 : tot x ≤ tot o
      · rw [decide_eq_true h2, decide_eq_true (show o ≠ x from h1), decide_eq_true (show least ps x ≤ lmost ps o by omega)]
        rfl
      · rw [decide_eq_false h2, Bool.and_false, Bool.false_and]
  rw [e]
  exact List.length_filter_le _ _
end Kd
set_option Elab.async false
set_option linter.all false
set_option maxRecDepth 100000
set_option maxHeartbeats 3200000
/-! several dicts that stand still while an expression is gone through -/
namespace Lk
open PySem PySem.Spec PyProof.Rows L2
variable {X : Cx} {pins : List (Addr × Obj)} {σ : L2.St} {s : Shared}
def Out (ds : List (Addr × HO)) (b : Addr) : Prop := ∀ q ∈ ds, q.1 ≠ b
theorem lockN : ∀ (ds : List (Addr × HO)) (H : Hp), Inv X pins σ H s → (ds.map (·.1)).Nodup → (∀ q ∈ ds, H q.1 = some q.2 ∧ Mut (some q.2)) →
    ∃ H1, Inv X pins σ H1 s ∧ (∀ b, Out ds b → H1 b = H b) ∧ ∀ q ∈ ds, ∃ od, H1 q.1 = some (.frz od q.2)
  | [], H, I, _, _ => ⟨H, I, fun _ _ => rfl, fun q h => by cases h⟩
  | q :: ds, H, I, nd, h => by
    obtain ⟨hq, mq⟩ := h q List.mem_cons_self
    obtain ⟨od, I1⟩ := Inv.lock I hq mq
    have nd' := (List.nodup_cons.mp nd)
    have hne : ∀ r ∈ ds, r.1 ≠ q.1 := fun r hr e => nd'.1 (List.mem_map.mpr ⟨r, hr, e⟩)
    obtain ⟨H1, I2, o1, f1⟩ := lockN ds _ I1 nd'.2 fun r hr => ⟨by rw [upd_ne (hne r hr)]; exact (h r (List.mem_cons_of_mem _ hr)).1, (h r (List.mem_cons_of_mem _ hr)).2⟩
    refine ⟨H1, I2, fun b hb => ?_, fun r hr => ?_⟩
    · rw [o1 b fun r hr => hb r (List.mem_cons_of_mem _ hr), upd_ne (hb q List.mem_cons_self).symm]
    · rcases List.mem_cons.mp hr with rfl | hr
      · exact ⟨od, by rw [o1 r.1 hne, upd_same]⟩
      · exact f1 r hr
theorem unlockN : ∀ (ds : List (Addr × HO)) (H : Hp), Inv X pins σ H s → (ds.map (·.1)).Nodup → (∀ q ∈ ds, ∃ od, H q.1 = some (.frz od q.2)) → (∀ q ∈ ds, ∀ od v, X.H_0 q.1 ≠ some (.frz od v)) →
    ∃ H1, Inv X pins σ H1 s ∧ (∀ b, Out ds b → H1 b = H b) ∧ ∀ q ∈ ds, H1 q.1 = some q.2
  | [], H, I, _, _, _ => ⟨H, I, fun _ _ => rfl, fun q h => by cases h⟩
  | q :: ds, H, I, nd, h, hf => by
    obtain ⟨od, hq⟩ := h q List.mem_cons_self
    have I1 := Inv.unlock I hq (hf q List.mem_cons_self)
    have nd' := (List.nodup_cons.mp nd)
    have hne : ∀ r ∈ ds, r.1 ≠ q.1 := fun r hr e => nd'.1 (List.mem_map.mpr ⟨r, hr, e⟩)
    obtain ⟨H1, I2, o1, f1⟩ := unlockN ds _ I1 nd'.2 (fun r hr => by rw [upd_ne (hne r hr)]; exact h r (List.mem_cons_of_mem _ hr)) fun r hr => hf r (List.mem_cons_of_mem _ hr)
    refine ⟨H1, I2, fun b hb => ?_, fun r hr => ?_⟩
    · rw [o1 b fun r hr => hb r (List.mem_cons_of_mem _ hr), upd_ne (hb q List.mem_cons_self).symm]
    · rcases List.mem_cons.mp hr with rfl | hr
      · rw [o1 r.1 hne, upd_same]
      · exact f1 r hr
def tLockN (t : TE) : TE := fun σ H Q => ∃ ds : List (Addr × HO), (ds.map (·.1)).Nodup ∧ (∀ q ∈ ds, H q.1 = some q.2 ∧ Mut (some q.2)) ∧
  ∀ H1, (∀ b, Out ds b → H1 b = H b) → (∀ q ∈ ds, ∃ od, H1 q.1 = some (.frz od q.2)) → t σ H1 fun v H2 => (∀ q ∈ ds, ∃ od, H2 q.1 = some (.frz od q.2)) ∧
    ∀ H3, (∀ b, Out ds b → H3 b = H2 b) → (∀ q ∈ ds, H3 q.1 = some q.2) → Q v H3
theorem pe_lockN {e : Expr} {t : TE} (h : PE X e t) : PE X e (tLockN t) := by
  refine ⟨fun pins s σ H Q I hw => ?_⟩
  obtain ⟨ds, nd, hd, hw⟩ := hw
  obtain ⟨H1, I1, o1, f1⟩ := lockN ds H I nd hd
  refine thn (h.run pins s σ H1 _ I1 (hw H1 o1 f1)) fun v s1 hx => ?_
  obtain ⟨x, H2, I2, r, f2, q⟩ := hx
  obtain ⟨H3, I3, o3, f3⟩ := unlockN ds H2 I2 nd f2 fun q hq => Inv.nofrz I (hd q hq).1 (hd q hq).2
  exact ⟨x, H3, I3, r, q H3 o3 f3⟩
/-- a walk over a list: what each turn does to the heap -/
theorem go_list {K : PySem.W.Frag} {a : Addr} {xs : List V} {Step : V → Hp → (Hp → Prop) → Prop} {D1 : Hp} {Qd : Hp → Prop} (Pv : Nat → Hp → Prop) (h0 : Pv 0 D1) (hl : ∀ i H, i ≤ xs.length → Pv i H → SqL K H a xs)
    (hs : ∀ i x H, xs[i]? = some x → Pv i H → Step x H (Pv (i + 1))) (hd : ∀ H, Pv xs.length H → Qd H) :
    ∃ W : Nat → Nat → Hp → Prop, (∃ m, W 0 m D1) ∧ ∀ i m H, W i m H → ((Itl K a).stop i H ∧ Qd H) ∨ ((Itl K a).go i H ∧ ∃ Nx : Hp → Prop, (∀ H', Nx H' → ∃ m', m' < m ∧ W (i + 1) m' H') ∧ ∀ x H', (Itl K a).yld i H x H' → Step x H' Nx) := by
  refine ⟨fun i m H => m = xs.length - i ∧ i ≤ xs.length ∧ Pv i H, ⟨xs.length, by simp, Nat.zero_le _, h0⟩, ?_⟩
  rintro i m H ⟨rfl, hi, p⟩
  have q := hl i H hi p
  by_cases hlt : i < xs.length
  · refine .inr ⟨⟨xs, xs[i], q, List.getElem?_eq_getElem hlt⟩, Pv (i + 1), fun H' p' => ⟨xs.length - (i + 1), by omega, rfl, hlt, p'⟩, fun x H' y => ?_⟩
    obtain ⟨rfl, y⟩ := y
    exact hs i x H' (y xs q) p
  · obtain rfl : i = xs.length := by omega
    exact .inl ⟨⟨xs, q, Nat.le_refl _⟩, hd H p⟩
theorem go_keys {d : Addr} {o : Obj} {kvs : List (Key × V)} {Step : V → Hp → (Hp → Prop) → Prop} {D1 : Hp} {Qd : Hp → Prop} (Pv : Nat → Hp → Prop) (h0 : Pv 0 D1) (hl : ∀ i H, i ≤ kvs.length → Pv i H → H d = some (.frz o (.dK kvs)))
    (hs : ∀ i k v H, kvs[i]? = some (k, v) → Pv i H → Step (kV k) H (Pv (i + 1))) (hd : ∀ H, Pv kvs.length H → Qd H) :
    ∃ W : Nat → Nat → Hp → Prop, (∃ m, W 0 m D1) ∧ ∀ i m H, W i m H → ((Itk d o kvs).stop i H ∧ Qd H) ∨ ((Itk d o kvs).go i H ∧ ∃ Nx : Hp → Prop, (∀ H', Nx H' → ∃ m', m' < m ∧ W (i + 1) m' H') ∧ ∀ x H', (Itk d o kvs).yld i H x H' → Step x H' Nx) := by
  refine ⟨fun i m H => m = kvs.length - i ∧ i ≤ kvs.length ∧ Pv i H, ⟨kvs.length, by simp, Nat.zero_le _, h0⟩, ?_⟩
  rintro i m H ⟨rfl, hi, p⟩
  have q := hl i H hi p
  by_cases hlt : i < kvs.length
  · refine .inr ⟨⟨q, hlt⟩, Pv (i + 1), fun H' p' => ⟨kvs.length - (i + 1), by omega, rfl, hlt, p'⟩, fun x H' y => ?_⟩
    obtain ⟨rfl, k, v, e, rfl⟩ := y
    exact hs i k v H' e p
  · obtain rfl : i = kvs.length := by omega
    exact .inl ⟨⟨q, Nat.le_refl _⟩, hd H p⟩
end Lk
set_option Elab.async false
set_option linter.all false
set_option maxRecDepth 100000
set_option maxHeartbeats 4000000
namespace Wq
open PySem PySem.Spec PyProof.Rows L2
open Kd (Pt Rw told most lm sumO least mostO lmost below ahead sureL openL)
/-! KnownRows -/
def rwV (q : Rw) : HO := .tup [.str q.1, .int q.2]
structure RowsA (H : Hp) (as : List Addr) (rs : List Rw) : Prop where
  len : as.length = rs.length
  at_ : ∀ (i : Nat) (a : Addr) (q : Rw), as[i]? = some a → rs[i]? = some q → H a = some (rwV q)
theorem RowsA.same {H G : Hp} {as : List Addr} {rs : List Rw} (h : RowsA H as rs) (s : Same H G) : RowsA G as rs := ⟨h.len, fun i a q h1 h2 => s _ _ (h.at_ i a q h1 h2)⟩
theorem RowsA.get {H : Hp} {as : List Addr} {rs : List Rw} (h : RowsA H as rs) {i : Nat} {v : V} (e : (as.map V.ref)[i]? = some v) : ∃ a q, v = .ref a ∧ rs[i]? = some q ∧ H a = some (rwV q) := by
  rw [List.getElem?_map] at e
  cases ea : as[i]? with
  | none => rw [ea] at e; cases e
  | some a =>
    rw [ea] at e
    obtain rfl := Option.some.inj e
    have hi : i < rs.length := by rw [← h.len]; exact (List.getElem?_eq_some_iff.mp ea).1
    exact ⟨a, rs[i], rfl, List.getElem?_eq_getElem hi, h.at_ i a _ ea (List.getElem?_eq_getElem hi)⟩
def ent (q : Rw) : Key × V := (Sum.inr q.1, .int q.2)
def oV : Option Int → V
  | none => .non
  | some m => .int m
def xV : Option Str → V
  | none => .non
  | some x => .str x
theorem valV_ent (p : Pt) (x : Str) : valV (p.rows.map ent) (Sum.inr x) = (told p x).map V.int := by
  unfold valV told
  induction p.rows with
  | nil => rfl
  | cons q rs ih =>
    rw [List.map_cons, List.find?_cons, List.find?_cons]
    by_cases h : q.1 = x
    · rw [decide_eq_true h, decide_eq_true (show (ent q).1 = Sum.inr x from congrArg Sum.inr h)]
      rfl
    · rw [decide_eq_false h, decide_eq_false (show ¬(ent q).1 = Sum.inr x from fun e => h (Sum.inr.inj e))]
      exact ih
theorem putK_ent {rs : List Rw} {q : Rw} (h : q.1 ∉ rs.map (·.1)) : putK (rs.map ent) (Sum.inr q.1) (.int q.2) = (rs ++ [q]).map ent := by
  unfold putK
  rw [if_neg]
  · rw [List.map_append]
    rfl
  · rw [List.any_eq_true]
    rintro ⟨kv, hk, e⟩
    obtain ⟨r, hr, rfl⟩ := List.mem_map.mp hk
    exact h (List.mem_map.mpr ⟨r, hr, Sum.inr.inj (of_decide_eq_true e)⟩)
structure TxtK (K : PySem.W.Frag) (mg : Str → Option Value) (C : Addr) : Prop where
  cl : Cls K C
  nM : NoAttr K C "many"
  nA : NoAttr K C "is_all"
  nL : NoAttr K C "last"
  gC : mg "KnownRows" = some (.ref C)
structure KnAt (H : Hp) (C a : Addr) (p : Pt) (d : Addr) : Prop where
  ex : ∃ dx lv, H a = some (.ins C dx [("many", .ref d), ("is_all", .bl p.whole), ("last", lv)]) ∧ H d = some (.dK (p.rows.map ent)) ∧
    ((p.rows.getLast? = none ∧ lv = .non) ∨ ∃ q t, p.rows.getLast? = some q ∧ lv = .ref t ∧ H t = some (rwV q))
theorem KnAt.same {H G : Hp} {C a d : Addr} {p : Pt} (h : KnAt H C a p d) (s : Same H G) : KnAt G C a p d := by
  obtain ⟨dx, lv, h1, h2, h3⟩ := h.ex
  refine ⟨dx, lv, s _ _ h1, s _ _ h2, ?_⟩
  rcases h3 with h3 | ⟨q, t, h4, h5, h6⟩
  · exact .inl h3
  · exact .inr ⟨q, t, h4, h5, s _ _ h6⟩
abbrev sKI : Stmt := inClass (top 9) 0
abbrev NKI : List Str := ["self", "rows", "is_whole", "text", "many"]
theorem scKI : FnScope NKI ["self", "rows", "is_whole"] (defScope sKI) := ⟨rfl, rfl, rfl, by decide +kernel, rfl, by decide +kernel, by decide +kernel⟩
abbrev sMo : Stmt := inClass (top 9) 1
abbrev NMo : List Str := ["self", "text"]
theorem scMo : FnScope NMo ["self", "text"] (defScope sMo) := ⟨rfl, rfl, rfl, by decide +kernel, rfl, by decide +kernel, by decide +kernel⟩
def spKI (K : PySem.W.Frag) (C : Addr) : Sp := fun vs H Q _ => ∃ (a dx l : Addr) (w : Bool) (as : List Addr) (rs : List Rw), vs = [.ref a, .ref l, .bl w] ∧ H a = some (.ins C dx []) ∧ H l = some (.lst (as.map V.ref)) ∧ RowsA H as rs ∧ (rs.map (·.1)).Nodup ∧ rs.length ≤ 1000 ∧
  ∀ d G, H d = none → (∀ b o, H b = some o → b ≠ a → G b = some o) → KnAt G C a ⟨rs, w⟩ d → Q .non G
def spMo (C : Addr) : Sp := fun vs H Q _ => ∃ (a d : Addr) (p : Pt) (x : Option Str), vs = [.ref a, xV x] ∧ KnAt H C a p d ∧ Q (oV (most p x)) H
section
variable {P : Program} {w : World} {K : PySem.W.Frag} {mg : Str → Option Value} {base : Heap} {C : Addr}
theorem ok_KI {f : Addr} {fd : FuncData} (F : Fun K "__init__" "KnownRows.__init__" sKI f fd) (TK : TxtK K mg C) (T : Txt K mg) : FnOk P w K mg base CX0 1 f fd ["self", "rows", "is_whole"] (spKI K C) := by
  refine F.ok scKI (fun vs H Q E h => ?_) (fun cdv A outer s H vs Q E hr h => ?_)
  · obtain ⟨a, dx, l, w, as, rs, rfl, _⟩ := h
    rfl
  · obtain ⟨a, dx, l, w, as, rs, rfl, ha, hl, hR, nd, few, k⟩ := h
    refine ⟨_, pss_cons (ps_fld (pv 0) (pe_dc (own := [("text", 3), ("many", 4)]) (g := gTup K 2 (gCons (gName 3) (gCons (gName 4) gNil))) (tt := tYes) (by rfl) scKI.nd (pi_list (pv 1)) (blkOk_by (own := [("text", 3), ("many", 4)]) (N := NKI) (sc := defScope sKI) (by decide +kernel)) (fun _ _ _ _ _ => (pg_tup (by rfl) (pgs_cons (pg_name (i := 3) scKI.nd rfl (Or.inl rfl)) (pgs_cons (pg_name (i := 4) scKI.nd rfl (Or.inl rfl)) pgs_nil)))) (fun _ _ _ _ _ => pts_nil) (fun _ _ _ _ _ => (pv 3)) (fun _ _ _ _ _ => (pv 4))) rfl)
(pss_cons (ps_fld (pv 0) (pv 2) rfl)
(pss_one (ps_fld (pv 0) (pe_ifExp (pt_cmpR op_gt (pe_callB call_len_seq (by rfl) (by exact T.len) PySem.boot_len (pa_cons (pv 1) pa_nil)) pe_int (nomark _)) (pe_ix ix_list (pv 1) (pe_un un_neg pe_int) (fun _ _ => rfl)) pe_non) rfl))), ?_⟩
    refine ⟨_, rfl, l, rfl, ⟨_, .inl (.inl hl)⟩, fun D hD => ?_⟩
    have s0 : Same H (upd H D (.dK [])) := Same.new hD
    refine Lk.go_list (K := K) (a := l) (xs := as.map V.ref) (fun i G => Same H G ∧ G D = some (.dK ((rs.take i).map ent))) ⟨s0, upd_same⟩ (fun i G _ h => .inl (.inl (h.1 _ _ hl))) ?_ ?_
    · rintro i v G hv ⟨sG, hG⟩
      obtain ⟨ra, q, rfl, hq, hrq⟩ := hR.get hv
      have hi : i < rs.length := (List.getElem?_eq_some_iff.mp hq).1
      refine ⟨ra, _, rfl, .inl (.inl (sG _ _ hrq)), rfl, _, _, rfl, _, _, rfl, rfl, rfl, ?_⟩
      simp only [tYes, if_true]
      refine ⟨_, rfl, _, rfl, _, Sum.inr q.1, rfl, hG, ?_, ?_, ?_⟩
      · rw [List.length_map, List.length_take, sizeLine_eq]
        omega
      · exact Same.put sG hD
      · rw [upd_same]
        have nq : q.1 ∉ (rs.take i).map (·.1) := by
          intro z
          obtain ⟨r, hr, e⟩ := List.mem_map.mp z
          obtain ⟨j, hj, er⟩ := List.mem_iff_getElem.mp hr
          rw [List.length_take] at hj
          rw [List.getElem_take] at er
          have := (List.pairwise_iff_getElem.mp nd) j i (by rw [List.length_map]; omega) (by rw [List.length_map]; omega) (by omega)
          rw [List.getElem_map, List.getElem_map, er] at this
          have eq : rs[i] = q := Option.some.inj ((List.getElem?_eq_getElem hi).symm.trans hq)
          rw [eq] at this
          exact this e
        rw [putK_ent nq, List.take_add_one, hq]
        rfl
    rintro G ⟨sG, hG⟩
    rw [List.length_map, hR.len, List.take_length] at hG
    have nla : l ≠ a := ne_of hl ha (by intro z; cases z)
    have nDa : D ≠ a := (ne_of_none ha hD).symm
    have nDl : D ≠ l := (ne_of_none hl hD).symm
    have hl1 : ∀ o, upd G a o l = some (.lst (as.map V.ref)) := fun o => by rw [upd_ne nla]; exact sG _ _ hl
    have fin : ∀ lv, ((rs.getLast? = none ∧ lv = .non) ∨ ∃ q t, rs.getLast? = some q ∧ lv = .ref t ∧ H t = some (rwV q)) →
        Q .non (upd (upd (upd G a (.ins C dx [("many", .ref D)])) a (.ins C dx [("many", .ref D), ("is_all", .bl w)])) a (.ins C dx [("many", .ref D), ("is_all", .bl w), ("last", lv)])) := fun lv hv => by
      refine k D _ hD (fun b o e n => by rw [upd_ne n, upd_ne n, upd_ne n]; exact sG _ _ e) ⟨dx, lv, upd_same, ?_, ?_⟩
      · rw [upd_ne nDa, upd_ne nDa, upd_ne nDa]
        exact hG
      · rcases hv with hv | ⟨q, t, e1, e2, e3⟩
        · exact .inl hv
        · refine .inr ⟨q, t, e1, e2, ?_⟩
          have nt : t ≠ a := ne_of e3 ha (by intro z; cases z)
          rw [upd_ne nt, upd_ne nt, upd_ne nt]
          exact sG _ _ e3
    refine ⟨_, rfl, a, C, dx, [], rfl, sG _ _ ha, TK.cl, TK.nM, (by show 0 < 1000; decide), ?_⟩
    refine ⟨_, rfl, _, rfl, a, C, dx, _, rfl, upd_same, TK.cl, TK.nA, (by show 1 < 1000; decide), ?_⟩
    have hl2 : upd (upd G a (.ins C dx [("many", .ref D)])) a (.ins C dx [("many", .ref D), ("is_all", .bl w)]) l = some (.lst (as.map V.ref)) := by rw [upd_ne nla]; exact hl1 _
    have nl : (as.map V.ref).length = rs.length := by rw [List.length_map, hR.len]
    refine ⟨_, rfl, l, _, rfl, .inl (.inl (.inl hl2)), _, _, rfl, rfl, _, rfl, ?_⟩
    refine ite2 (fun h => ?_) (fun h => ?_)
    · have h : (0 : Int) < ((as.map V.ref).length : Nat) := of_decide_eq_true h
      rw [nl] at h
      have hp : rs.length - 1 < rs.length := by omega
      have eq : rs[rs.length - 1]? = some rs[rs.length - 1] := List.getElem?_eq_getElem hp
      obtain ⟨t, ht⟩ : ∃ t, as[rs.length - 1]? = some t := ⟨as[rs.length - 1]'(by rw [hR.len]; exact hp), List.getElem?_eq_getElem _⟩
      refine ⟨_, rfl, 1, rfl, l, _, (-1 : Int), .ref t, rfl, rfl, .inl (.inl hl2), ?_, ?_⟩
      · unfold atI ixN
        rw [nl, if_neg (by decide), if_pos (by omega)]
        show (as.map V.ref)[((-1 : Int) + (rs.length : Int)).toNat]? = _
        rw [show ((-1 : Int) + (rs.length : Int)).toNat = rs.length - 1 by omega, List.getElem?_map, ht]
        rfl
      · refine ⟨_, rfl, a, C, dx, _, rfl, upd_same, TK.cl, TK.nL, (by show 2 < 1000; decide), fin (.ref t) (.inr ⟨_, t, ?_, rfl, hR.at_ _ _ _ ht eq⟩)⟩
        rw [List.getLast?_eq_getElem?]
        exact eq
    · have h : ¬(0 : Int) < ((as.map V.ref).length : Nat) := fun z => h (decide_eq_true z)
      rw [nl] at h
      have e0 : rs = [] := List.length_eq_zero_iff.mp (by omega)
      refine ⟨_, rfl, a, C, dx, _, rfl, upd_same, TK.cl, TK.nL, (by show 2 < 1000; decide), fin .non (.inl ⟨by rw [e0]; rfl, rfl⟩)⟩
theorem ok_Mo {f : Addr} {fd : FuncData} (F : Fun K "most_of" "KnownRows.most_of" sMo f fd) (TK : TxtK K mg C) (T : Txt K mg) : FnOk P w K mg base CX0 1 f fd ["self", "text"] (spMo C) := by
  refine F.ok scMo (fun vs H Q E h => ?_) (fun cdv A outer s H vs Q E hr h => ?_)
  · obtain ⟨a, d, p, x, rfl, _⟩ := h
    rfl
  · obtain ⟨a, d, p, x, rfl, hK, k⟩ := h
    have hu := hu_of hr
    refine ⟨_, C8.pss_cut (ps_if (pt_cmp (pc_dinN hu (pv 1) (pe_fld (pv 0) rfl)))
(pss_one (ps_ret (pe_dget hu (pe_fld (pv 0) rfl) (pv 1) (fun _ _ => rfl))))
pss_nil)
(pss_cons (ps_if (pt_val (pe_fld (pv 0) rfl))
(pss_one (ps_ret pe_int))
pss_nil)
(pss_cons (ps_if (pt_cmpR op_isN (pe_fld (pv 0) rfl) pe_non (nomark _))
(pss_one (ps_ret pe_non))
pss_nil)
(pss_one (ps_ret (pe_ifExp (PW.pt (pw_or (pt_cmpR op_isN (pv 1) pe_non (nomark _)) (pw_or1 (pt_cmpR op_gt_str (pv 1) (pe_ix ix_tup (pe_fld (pv 0) rfl) pe_int (fun _ _ => rfl)) (nomark _))))) (pe_ix ix_tup (pe_fld (pv 0) rfl) pe_int (fun _ _ => rfl)) (pe_op op_sub (pe_ix ix_tup (pe_fld (pv 0) rfl) pe_int (fun _ _ => rfl)) pe_int)))))), ?_⟩
    obtain ⟨dx, lv, h1, h2, h3⟩ := hK.ex
    refine ⟨fun σ G => σ = L2.start NMo [V.ref a, xV x] ∧ G = H ∧ x.bind (told p) = none, ?_, ?_⟩
    · cases x with
      | none =>
        refine ⟨_, rfl, _, rfl, a, C, dx, _, _, rfl, h1, TK.cl, TK.nM, rfl, .inr ⟨d, _, rfl, rfl, .inl h2, ?_⟩⟩
        refine ⟨_, rfl, (if_neg (by decide)).mpr ⟨rfl, rfl, rfl⟩⟩
      | some t =>
        have hg := DGet.k (k := Sum.inr t) h2
        rw [valV_ent] at hg
        refine ⟨_, rfl, _, rfl, a, C, dx, _, _, rfl, h1, TK.cl, TK.nM, rfl, .inl ⟨d, _, rfl, hg, ?_⟩⟩
        cases e : told p t with
        | none => exact ⟨_, rfl, (if_neg (by simp)).mpr ⟨rfl, rfl, e⟩⟩
        | some m =>
          rw [e] at hg
          refine ⟨_, rfl, (if_pos (by simp)).mpr ?_⟩
          refine ⟨_, rfl, a, C, dx, _, _, rfl, h1, TK.cl, TK.nM, rfl, _, rfl, d, _, rfl, hg, ?_⟩
          have em : most p (some t) = some m := by
            unfold most
            show (match told p t with | some m => some m | none => _ : Option Int) = _
            rw [e]
          rw [em] at k
          exact k
    rintro σ G ⟨rfl, rfl, hx⟩
    have em : most p x = if p.whole then some 0 else match p.rows.getLast? with
        | none => none
        | some r => match x with
          | none => some r.2
          | some t => if Kd.lt r.1 t then some r.2 else some (r.2 - 1) := by
      unfold most
      rw [hx] <;> rfl
    rw [em] at k
    refine ⟨_, rfl, a, C, dx, _, _, rfl, h1, TK.cl, TK.nA, rfl, _, rfl, ?_⟩
    refine ite2 (fun hw => ?_) (fun hw => ?_)
    · rw [hw] at k
      exact k
    rw [if_neg hw] at k
    refine ⟨_, rfl, a, C, dx, _, _, rfl, h1, TK.cl, TK.nL, rfl, rfl, _, rfl, ?_⟩
    rcases h3 with ⟨e, rfl⟩ | ⟨q, t, e, rfl, ht⟩
    · rw [e] at k
      exact (if_pos (by simp)).mpr k
    refine (if_neg (by simp)).mpr ?_
    rw [e] at k
    have i1 : ∀ (R : VK), R (.int q.2) G → ∃ p xs i v, V.ref t = V.ref p ∧ V.int 1 = V.int i ∧ SqT K G p xs ∧ atI xs i = some v ∧ R v G := fun R r => ⟨t, _, 1, .int q.2, rfl, rfl, .inl (.inl ht), rfl, r⟩
    have i0 : ∀ (R : VK), R (.str q.1) G → ∃ p xs i v, V.ref t = V.ref p ∧ V.int 0 = V.int i ∧ SqT K G p xs ∧ atI xs i = some v ∧ R v G := fun R r => ⟨t, _, 0, .str q.1, rfl, rfl, .inl (.inl ht), rfl, r⟩
    cases x with
    | none =>
      refine ⟨_, rfl, rfl, _, rfl, (if_pos (by simp [xV])).mpr ?_⟩
      refine (if_pos rfl).mpr ⟨_, rfl, a, C, dx, _, _, rfl, h1, TK.cl, TK.nL, rfl, t, _, 1, .int q.2, rfl, rfl, .inl (.inl ht), rfl, k⟩
    | some y =>
      refine ⟨_, rfl, rfl, _, rfl, (if_neg (by simp [xV])).mpr ?_⟩
      refine ⟨_, rfl, _, rfl, a, C, dx, _, _, rfl, h1, TK.cl, TK.nL, rfl, t, _, 0, .str q.1, rfl, rfl, .inl (.inl ht), rfl, _, _, rfl, rfl, _, rfl, ?_⟩
      refine ite2 (fun hl => ?_) (fun hl => ?_)
      · refine ⟨_, rfl, a, C, dx, _, _, rfl, h1, TK.cl, TK.nL, rfl, t, _, 1, .int q.2, rfl, rfl, .inl (.inl ht), rfl, ?_⟩
        have hl : Kd.lt q.1 y = true := hl
        have k : Q (oV (if Kd.lt q.1 y = true then some q.2 else some (q.2 - 1))) G := k
        rw [if_pos hl] at k
        exact k
      · have hl : ¬Kd.lt q.1 y = true := hl
        have k : Q (oV (if Kd.lt q.1 y = true then some q.2 else some (q.2 - 1))) G := k
        rw [if_neg hl] at k
        refine ⟨_, rfl, a, C, dx, _, _, rfl, h1, TK.cl, TK.nL, rfl, t, _, 1, .int q.2, rfl, rfl, .inl (.inl ht), rfl, _, _, rfl, rfl, ?_⟩
        exact k
end
end Wq
set_option Elab.async false
set_option linter.all false
set_option maxRecDepth 100000
set_option maxHeartbeats 3200000
/-! set comprehensions with two for: the two loops -/
namespace TX
open PySem PySem.Spec PyProof.Rows L2
variable {prog : Program} {w : World} {A : Around} {R : Result → Shared → Prop} {elt t0 i0 t1 i1 : Expr} {ifs0 ifs1 : List Expr} {scope : Scope} {pos : Pos} {it acc : Value} {env : Env}
abbrev sc2 (elt t0 i0 t1 i1 : Expr) (ifs0 ifs1 : List Expr) (scope : Scope) (pos : Pos) : Expr :=
  elt.SetComp [{ target := t0, iter := i0, ifs := ifs0, is_async := 0 }, { target := t1, iter := i1, ifs := ifs1, is_async := 0 }] scope pos
theorem s2_out (hs : ∀ x : Value, foldedSetIterable i1 env x = pure x) (I : Nat → Shared → Prop)
    (turn : ∀ (n : Nat) (s : Shared), I n s → wpAny (model prog w) A (pyNext it)
      (fun r s₁ => match r with
        | none => R (Except.ok Flow.next) s₁
        | some v => wpAny (model prog w) A (letOwnedTupleGo t0 it v)
          (fun _ s₁' => wpAny (model prog w) A (assign t0 env v)
            (fun _ s₂ => wpAny (model prog w) A
              (forIn ifs0 true fun c r => if r = true then do
                  let ok ← PySem.isTrue c env (eval c env)
                  pure (ForInStep.yield ok)
                else pure (ForInStep.yield r))
              (fun ok s₃ => if ok = true then
                  wpAny (model prog w) A (eval i1 env)
                    (fun x s₄ => wpAny (model prog w) A (pyIter x)
                      (fun it1 s₅ => codeAny (model prog w) A (Code.compStart (sc2 elt t0 i0 t1 i1 ifs0 ifs1 scope pos) 1 it1 acc env)
                        (fun r s' => match r with
                          | Except.ok _ => ∃ m, m < n ∧ I m s'
                          | Except.error _ => False) s₅)
                      (notedBy (model prog w) A env fun e s' => R (Except.error e) s') s₄)
                    (notedBy (model prog w) A env fun e s' => R (Except.error e) s') s₃
                else ∃ m, m < n ∧ I m s₃)
              (notedBy (model prog w) A env fun e s' => R (Except.error e) s') s₂)
            (notedBy (model prog w) A env fun e s' => R (Except.error e) s') s₁')
          (notedBy (model prog w) A env fun e s' => R (Except.error e) s') s₁)
      (notedBy (model prog w) A env fun e s' => R (Except.error e) s') s) :
    ∀ (n : Nat) (s : Shared), I n s → codeAny (model prog w) A (Code.compLoop (sc2 elt t0 i0 t1 i1 ifs0 ifs1 scope pos) 0 it acc env) R s := by
  intro n s h
  refine codeAny_loop rfl I (fun n s hI => ?_) n h
  refine wpAny_noted ?_
  refine wpAny_bind (wpAny_standAt ?_)
  refine wpAny_bind (wpAny_mono (turn n s hI) (fun r s₁ h₁ => ?_) (fun _ _ h' => h'))
  cases r with
  | none => exact wpAny_pure h₁
  | some v =>
    refine wpAny_bind (wpAny_mono h₁ (fun _ s₁' h₁' => ?_) (fun _ _ h' => h'))
    refine wpAny_bind (wpAny_mono h₁' (fun _ s₂ h₂ => ?_) (fun _ _ h' => h'))
    refine wpAny_bind (wpAny_mono h₂ (fun ok s₃ h₃ => ?_) (fun _ _ h' => h'))
    cases ok with
    | false => exact wpAny_pure ⟨rfl, by simpa using h₃⟩
    | true =>
      have h₃ := (if_pos rfl).mp h₃
      refine wpAny_bind (wpAny_mono h₃ (fun x s₄ h₄ => ?_) (fun _ _ h' => h'))
      refine wpAny_bind (wpAny_standAt ?_)
      refine wpAny_bind (wpAny_of_eq (hs x) ?_)
      refine wpAny_bind (wpAny_holding (wpAny_mono h₄ (fun it1 s₅ h₅ => ?_) (fun _ _ h' => h')))
      refine wpAny_bind (wpAny_runOwn (codeAny_mono h₅ fun r s' hr => ?_))
      cases r with
      | error e => exact hr.elim
      | ok f => exact wpAny_pure ⟨rfl, hr⟩
theorem s2_in (I : Nat → Shared → Prop)
    (turn : ∀ (n : Nat) (s : Shared), I n s → wpAny (model prog w) A (pyNext it)
      (fun r s₁ => match r with
        | none => R (Except.ok Flow.next) s₁
        | some v => wpAny (model prog w) A (letOwnedTupleGo t1 it v)
          (fun _ s₁' => wpAny (model prog w) A (assign t1 env v)
            (fun _ s₂ => wpAny (model prog w) A
              (forIn ifs1 true fun c r => if r = true then do
                  let ok ← PySem.isTrue c env (eval c env)
                  pure (ForInStep.yield ok)
                else pure (ForInStep.yield r))
              (fun ok s₃ => if ok = true then
                  wpAny (model prog w) A (eval elt env)
                    (fun x s₄ => wpAny (model prog w) A (call (Value.builtin "set.add") [acc, x])
                      (fun _ s₅ => ∃ m, m < n ∧ I m s₅)
                      (notedBy (model prog w) A env fun e s' => R (Except.error e) s') s₄)
                    (notedBy (model prog w) A env fun e s' => R (Except.error e) s') s₃
                else ∃ m, m < n ∧ I m s₃)
              (notedBy (model prog w) A env fun e s' => R (Except.error e) s') s₂)
            (notedBy (model prog w) A env fun e s' => R (Except.error e) s') s₁')
          (notedBy (model prog w) A env fun e s' => R (Except.error e) s') s₁)
      (notedBy (model prog w) A env fun e s' => R (Except.error e) s') s) :
    ∀ (n : Nat) (s : Shared), I n s → codeAny (model prog w) A (Code.compLoop (sc2 elt t0 i0 t1 i1 ifs0 ifs1 scope pos) 1 it acc env) R s := by
  intro n s h
  refine codeAny_loop rfl I (fun n s hI => ?_) n h
  refine wpAny_noted ?_
  refine wpAny_bind (wpAny_standAt ?_)
  refine wpAny_bind (wpAny_mono (turn n s hI) (fun r s₁ h₁ => ?_) (fun _ _ h' => h'))
  cases r with
  | none => exact wpAny_pure h₁
  | some v =>
    refine wpAny_bind (wpAny_mono h₁ (fun _ s₁' h₁' => ?_) (fun _ _ h' => h'))
    refine wpAny_bind (wpAny_mono h₁' (fun _ s₂ h₂ => ?_) (fun _ _ h' => h'))
    refine wpAny_bind (wpAny_mono h₂ (fun ok s₃ h₃ => ?_) (fun _ _ h' => h'))
    cases ok with
    | false => exact wpAny_pure ⟨rfl, by simpa using h₃⟩
    | true =>
      have h₃ := (if_pos rfl).mp h₃
      refine wpAny_bind (wpAny_bind (wpAny_mono h₃ (fun x s₄ h₄ => ?_) (fun _ _ h' => h')))
      refine wpAny_bind (wpAny_standAt ?_)
      refine wpAny_bind (wpAny_mono h₄ (fun _ s₅ h₅ => ?_) (fun _ _ h' => h'))
      exact wpAny_pure (wpAny_pure ⟨rfl, h₅⟩)
theorem start0 {s : Shared} (h0 : codeAny (model prog w) A (Code.compLoop (sc2 elt t0 i0 t1 i1 ifs0 ifs1 scope pos) 0 it acc env) R s)
    (h : wpAny (model prog w) A (pyIter it) (fun it' s' => codeAny (model prog w) A (Code.compLoop (sc2 elt t0 i0 t1 i1 ifs0 ifs1 scope pos) 0 it' acc env) R s')
      (notedBy (model prog w) A env fun x s' => R (Except.error x) s') s) :
    codeAny (model prog w) A (Code.compStart (sc2 elt t0 i0 t1 i1 ifs0 ifs1 scope pos) 0 it acc env) R s := PpSet.codeAny_compStart_set h0 h
theorem start1 {s : Shared} (h0 : codeAny (model prog w) A (Code.compLoop (sc2 elt t0 i0 t1 i1 ifs0 ifs1 scope pos) 1 it acc env) R s)
    (h : wpAny (model prog w) A (pyIter it) (fun it' s' => codeAny (model prog w) A (Code.compLoop (sc2 elt t0 i0 t1 i1 ifs0 ifs1 scope pos) 1 it' acc env) R s')
      (notedBy (model prog w) A env fun x s' => R (Except.error x) s') s) :
    codeAny (model prog w) A (Code.compStart (sc2 elt t0 i0 t1 i1 ifs0 ifs1 scope pos) 1 it acc env) R s := by
  refine codeAny_of_tree ?_
  show wpAny _ _ (Sem.onRaise (compStart (sc2 elt t0 i0 t1 i1 ifs0 ifs1 scope pos) 1 it acc env) _) _ _ _
  refine wpAny_notedAt ?_
  show wpAny _ _ (do
        let __do_lift ← ask
        if __do_lift.params.followText "comprehension-iter-twice" = true then again (Code.compLoop (sc2 elt t0 i0 t1 i1 ifs0 ifs1 scope pos) 1 it acc env)
          else do
            rule "comprehension.iter-twice"
            standAt i1.pos
            let __do_lift ← pyIter it
            again (Code.compLoop (sc2 elt t0 i0 t1 i1 ifs0 ifs1 scope pos) 1 __do_lift acc env)) _ _ _
  refine wpAny_bind (wpAny_askSetting ?_)
  split
  · exact wpAny_pure ⟨rfl, h0⟩
  · refine wpAny_bind (wpAny_rule ?_)
    refine wpAny_bind (wpAny_standAt ?_)
    exact wpAny_bind (wpAny_mono h (fun it' s' h' => wpAny_pure ⟨rfl, h'⟩) fun _ _ h => h)
end TX
set_option Elab.async false
set_option linter.all false
set_option maxRecDepth 100000
set_option maxHeartbeats 3200000
/-! sets of texts that are walked -/
namespace TX
open PySem PySem.Spec PyProof.Rows L2
abbrev kn (P : Program) (w : World) := PySem.strKind P w
def kS (e : Int × Value) : Str := match e.2 with
  | .str k _ => k
  | _ => Str.empty
def OkE (w : World) (e : Int × Value) : Prop := ∃ k u, e.2 = Value.str k u ∧ e.1 = hashStr w k
/-- the set of texts at a: M tells its members, n how many -/
def TSet (w : World) (h : Heap) (a : Addr) (M : Str → Bool) (n : Nat) : Prop :=
  ∃ ob es ep t, h.get? a = some ob ∧ ob.ExactSet ∧ ob.data = .set es ep t ∧ (∀ e ∈ es.toList, OkE w e) ∧ (es.toList.map kS).Nodup ∧ (∀ k, M k = true ↔ k ∈ es.toList.map kS) ∧
    es.size < scanBound ∧ t.fits es.size = true ∧ es.size = n ∧ Ris t.place.toList ∧ (w.params.followText "set-order" = true ∨ t.led = true)
section
variable {P : Program} {w : World} {h h' : Heap} {a : Addr} {M : Str → Bool} {n : Nat}
theorem TSet.keep (R : TSet w h a M n) (k : ∀ ob, h.get? a = some ob → h'.get? a = some ob) : TSet w h' a M n := by
  obtain ⟨ob, es, ep, t, e0, r⟩ := R
  exact ⟨ob, es, ep, t, k ob e0, r⟩
theorem TSet.as {M' : Str → Bool} (R : TSet w h a M n) (e : ∀ k, M' k = M k) : TSet w h a M' n := by
  obtain rfl : M' = M := funext e
  exact R
theorem ok_elems {l : List (Int × Value)} (g : ∀ e ∈ l, OkE w e) : ElemsOf (kn P w) l := fun e he => by
  obtain ⟨k, u, q1, q2⟩ := g e he
  refine ⟨⟨k, ?_, q2⟩, by rw [q1] <;> rfl⟩
  rw [q1]
  exact PySem.strKind_is P w k u
theorem ok_is {e : Int × Value} (g : OkE w e) (k : Str) : (kn P w).is k e.2 = true ↔ kS e = k := by
  obtain ⟨k0, u, q1, _⟩ := g
  unfold kS
  rw [q1]
  constructor
  · intro z
    have z : Value.isStrOf k (.str k0 u) = true := z
    obtain ⟨v, q⟩ := Value.isStrOf_shape z
    injection q
  · intro z
    have z : k0 = k := z
    rw [← z]
    exact PySem.strKind_is P w k0 u
theorem ok_mem {l : List (Int × Value)} (g : ∀ e ∈ l, OkE w e) (k : Str) : k ∈ l.map kS ↔ ∃ e ∈ l, (kn P w).is k e.2 = true := by
  rw [List.mem_map]
  exact ⟨fun ⟨e, he, q⟩ => ⟨e, he, (ok_is (g e he) k).2 q⟩, fun ⟨e, he, q⟩ => ⟨e, he, (ok_is (g e he) k).1 q⟩⟩
end
section
variable {P : Program} {w : World} {B : Around} {E : Value → Shared → Prop} {z : Shared} {a : Addr} {M : Str → Bool} {n : Nat}
theorem put_tail {gv : Bool → Sem Unit} (hgv : ∀ (b : Bool) (z1 : Shared) (Q' : Unit → Shared → Prop), Q' () z1 → wpAny (model P w) B (gv b) Q' E z1)
    {ob : Obj} {es : Array (Int × Value)} {ep : Nat} {t : SetTable} (e0 : z.heap.get? a = some ob) (ex : ob.ExactSet) (e1 : ob.data = .set es ep t)
    {fs : Array (Int × Value)} {t2 : SetTable} {N : Str → Bool} (g1 : ∀ e ∈ fs.toList, OkE w e) (n1 : (fs.toList.map kS).Nodup) (m1 : ∀ k, N k = true ↔ k ∈ fs.toList.map kS)
    (b1 : fs.size < scanBound) (f2 : t2.fits fs.size = true) (r2 : Ris t2.place.toList) (l2 : w.params.followText "set-order" = true ∨ t2.led = true) {wd : Bool} {R : Option Bool → Shared → Prop}
    (hR : ∀ h', Heap.SameBut a z.heap h' → TSet w h' a N fs.size → R (some true) { z with heap := h' }) :
    wpAny (model P w) B (do
        storeSet a fs t2
        if (!wd && t2.tooFull) = true then do
            gv (relayAll t2 fs (SetTable.grown fs.size)).2.2
            storeSet a (relayAll t2 fs (SetTable.grown fs.size)).1 (relayAll t2 fs (SetTable.grown fs.size)).2.1
            pure (some true)
          else pure (some true)) R E z := by
  refine wpAny_bind (wpAny_storeSet_of e0 e1 ?_ (fits_of_scanBound b1))
  have o1 := store_at (es' := fs) (t' := t2) e0 e1
  have q1 := Heap.SameBut.update z.heap a (Obj.putSet fs t2)
  split
  · have pm := relayAll_perm t2 fs (SetTable.grown fs.size)
    have f3 := relayAll_fits t2 fs (SetTable.grown fs.size)
    have r3 := relayAll_ris t2 fs (SetTable.grown fs.size)
    have l3 := relayAll_led t2 fs (SetTable.grown fs.size)
    generalize relayAll t2 fs (SetTable.grown fs.size) = Y at pm f3 r3 l3 ⊢
    obtain ⟨gs, t3, gave⟩ := Y
    dsimp only at pm f3 r3 l3 ⊢
    have sz : gs.size = fs.size := by
      have := pm.length_eq
      rw [Array.length_toList, Array.length_toList] at this
      exact this
    have b2 : gs.size < scanBound := sz ▸ b1
    refine wpAny_bind (hgv _ _ _ ?_)
    refine wpAny_bind (wpAny_storeSet_of o1 rfl ?_ (fits_of_scanBound b2))
    have o2 := store_at (es' := gs) (t' := t3) o1 rfl
    refine wpAny_pure (hR _ (q1.trans (Heap.SameBut.update _ a _)) ⟨_, gs, _, t3, o2, ex, rfl, ?_, ?_, ?_, b2, f3, sz, r3, ?_⟩)
    · exact fun e he => g1 e (pm.mem_iff.mp he)
    · exact (pm.map kS).nodup_iff.mpr n1
    · exact fun k => (m1 k).trans (pm.map kS).mem_iff.symm
    · exact l2.imp id fun q => by rw [l3]; exact q
  · exact wpAny_pure (hR _ q1 ⟨_, fs, _, t2, o1, ex, rfl, g1, n1, m1, b1, f2, rfl, r2, l2⟩)
theorem put_hashed {k : Str} {u : Tok} {Q : Bool → Shared → Prop} (R : TSet w z.heap a M n) (room : n + 1 < scanBound)
    (hQ : ∀ h', Heap.SameBut a z.heap h' → TSet w h' a (fun j => M j || decide (j = k)) (if M k = true then n else n + 1) → Q (!M k) { z with heap := h' }) :
    wpAny (model P w) B (setAddHashed a (.str k u) ((kn P w).hash k)) Q E z := by
  obtain ⟨ob, es, ep, t, e0, ex, e1, g, nd, hm, hb, hf, hn, hr, hl⟩ := R
  have isk : (kn P w).is k (.str k u) = true := PySem.strKind_is P w k u
  have sc : (Value.str k u).scannable = true := rfl
  have els : ElemsOf (kn P w) es.toList := ok_elems g
  unfold setAddHashed setAddHashedIn
  refine wpAny_holding (wpAny_bind (wpAny_setState_of e0 e1 hf ?_))
  dsimp only
  rw [byScan_of sc hb els]
  simp only [↓reduceIte]
  unfold setAddByScan
  refine wpAny_bind (wpAny_bind (wpAny_rule ?_))
  refine wpAny_bind (wpAny_setScan_of isk e0 e1 hf els ?_)
  cases fi : List.findIdx? (fun e => (kn P w).is k e.2) es.toList with
  | some j =>
    dsimp only
    obtain ⟨hj, pj, _⟩ := List.findIdx?_eq_some_iff_getElem.mp fi
    have Mk : M k = true := (hm k).2 ((ok_mem (P := P) (w := w) g k).2 ⟨es.toList[j], List.getElem_mem hj, pj⟩)
    refine wpAny_pure (wpAny_pure ?_)
    have q := hQ z.heap (Heap.SameBut.refl a z.heap) ⟨ob, es, ep, t, e0, ex, e1, g, nd, fun i => by
      rw [Bool.or_eq_true, decide_eq_true_eq, ← hm i]
      exact ⟨fun y => y.elim id (fun e => e ▸ Mk), .inl⟩, hb, hf, by rw [if_pos Mk]; exact hn, hr, hl⟩
    rw [Mk] at q
    exact q
  | none =>
    dsimp only
    have nk : k ∉ es.toList.map kS := fun y => by
      obtain ⟨e, he, q⟩ := (ok_mem (P := P) (w := w) g k).1 y
      have c := List.findIdx?_eq_none_iff.mp fi e he
      rw [q] at c
      cases c
    have Mk : M k = false := by
      cases q : M k with
      | false => rfl
      | true => exact absurd ((hm k).1 q) nk
    have gives : ∀ (b : Bool) {z1 : Shared} {Q' : Unit → Shared → Prop}, Q' () z1 → wpAny (model P w) B (match b with | true => rule "set.scan.the-table-gave-way" | false => pure ()) Q' E z1 :=
      fun b z1 Q' q => by cases b <;> first | exact wpAny_pure q | exact wpAny_rule q
    have pm := layNew_perm t es ((kn P w).hash k) (.str k u)
    have f1 := layNew_fits t es ((kn P w).hash k) (.str k u)
    have r1 := layNew_ris t es ((kn P w).hash k) (.str k u) hr
    have l1 := layNew_led t es ((kn P w).hash k) (.str k u)
    generalize layNew t es ((kn P w).hash k) (.str k u) = Y at pm f1 r1 l1 ⊢
    obtain ⟨fs, t1, wd, gave⟩ := Y
    dsimp only at pm f1 r1 l1 ⊢
    rw [Array.toList_push] at pm
    have pc : fs.toList.Perm (((kn P w).hash k, Value.str k u) :: es.toList) := pm.trans (List.perm_append_singleton _ _)
    have pk : (fs.toList.map kS).Perm (k :: es.toList.map kS) := pc.map kS
    have g1 : ∀ e ∈ fs.toList, OkE w e := fun e he => by
      rcases List.mem_cons.mp (pc.mem_iff.mp he) with y | y
      · rw [y]
        exact ⟨k, u, rfl, rfl⟩
      · exact g e y
    have n1 : (fs.toList.map kS).Nodup := pk.nodup_iff.mpr (List.nodup_cons.mpr ⟨nk, nd⟩)
    have m1 : ∀ i, (M i || decide (i = k)) = true ↔ i ∈ fs.toList.map kS := fun i => by
      rw [Bool.or_eq_true, decide_eq_true_eq, hm i, pk.mem_iff, List.mem_cons]
      exact Or.comm
    have sz : fs.size = n + 1 := by
      have := pc.length_eq
      rw [List.length_cons, Array.length_toList, Array.length_toList, hn] at this
      exact this
    have b1 : fs.size < scanBound := sz ▸ room
    have led : w.params.followText "set-order" = true ∨ t1.led = true := hl.imp id fun y => by rw [l1]; exact y
    have fin : ∀ h', Heap.SameBut a z.heap h' → TSet w h' a (fun j => M j || decide (j = k)) fs.size → Q true { z with heap := h' } := fun h' sb r => by
      have q := hQ h' sb
      rw [Mk] at q
      rw [sz] at r
      exact q r
    refine wpAny_bind (gives _ ?_)
    split
    · refine wpAny_bind ?_
      rw [hashByValue_scannable 8 sc]
      refine wpAny_pure ?_
      refine put_tail ?_ e0 ex e1 g1 n1 m1 b1 ?_ ?_ ?_ ?_
      · intro b z1 Q' q
        cases b <;> first | exact wpAny_pure q | exact wpAny_rule q
      · first | (split <;> first | exact f1 | exact SetTable.fits_plain_off f1) | exact f1
      · first | (split <;> exact r1) | exact r1
      · first | (split <;> exact led) | exact led
      · intro h' sb r
        dsimp only
        exact wpAny_pure (fin h' sb r)
    · refine wpAny_bind (wpAny_pure ?_)
      simp only [↓reduceIte]
      refine put_tail ?_ e0 ex e1 g1 n1 m1 b1 f1 r1 led ?_
      · intro b z1 Q' q
        cases b <;> first | exact wpAny_pure q | exact wpAny_rule q
      · intro h' sb r
        dsimp only
        exact wpAny_pure (fin h' sb r)
theorem tset_new {h : Heap} (e : h.get? a = some { cls := .type "set", dict := none, data := .set #[] 0 (.fresh 0 0 (!w.params.followText "set-order")) }) : TSet w h a (fun _ => false) 0 := by
  refine ⟨_, #[], 0, _, e, ⟨rfl, rfl, rfl⟩, rfl, (fun e he => by simp at he), (by simp), (fun k => by simp), (by decide), (by rfl), rfl, List.Pairwise.nil, ?_⟩
  cases q : w.params.followText "set-order"
  · exact .inr rfl
  · exact .inl rfl
end
end TX
set_option Elab.async false
set_option linter.all false
set_option maxRecDepth 100000
set_option maxHeartbeats 3200000
/-! set(texts), sorted(set) -/
namespace TX
open PySem PySem.Spec PyProof.Rows L2
section
variable {P : Program} {w : World} {B : Around} {E : Value → Shared → Prop} {z : Shared}
/-- the texts that were put in so far -/
def Has (w : World) (h : Heap) (a : Addr) (xs : List Str) : Prop := ∃ n, n ≤ xs.length ∧ TSet w h a (fun k => decide (k ∈ xs)) n
theorem Has.keep {h h' : Heap} {a : Addr} {xs : List Str} (R : Has w h a xs) (k : ∀ ob, h.get? a = some ob → h'.get? a = some ob) : Has w h' a xs := by
  obtain ⟨n, l, r⟩ := R
  exact ⟨n, l, r.keep k⟩
theorem texts_in {I : Addr} {fp wr : List Addr} {G : Array GenState → Array GenState → Prop} {n : Nat} {Pv : Nat → Value → Prop} {St : Nat → Shared → Prop} {R : Result → Shared → Prop}
    (W : WalksS P w B.in1 I fp wr G n Pv St) (T : Addr) (nT : T ∉ fp) (xs : List Str) (hn : n = xs.length) (few : xs.length < 64) (val : ∀ i v, Pv i v → ∃ x u, xs[i]? = some x ∧ v = .str x u)
    (h0 : Heap) (t0 : h0.get? T = none) (w0 : ∀ b ∈ wr, h0.get? b = none) :
    ∀ (k i : Nat) (z : Shared), n - i = k → i ≤ n → St i z → (∀ b ob, h0.get? b = some ob → z.heap.get? b = some ob) → Has w z.heap T (xs.take i) →
      (∀ z', Moved (T :: wr) G z z' → Has w z'.heap T xs → (∀ b ob, h0.get? b = some ob → z'.heap.get? b = some ob) → R (.ok (.ret .none)) z') →
      codeAny (model P w) B (.builtin "set.update.loop" ⟨[.ref T, .ref I], []⟩) R z := by
  have nTw : T ∉ wr := fun h => nT (W.sub _ h)
  have up : ∀ b ∈ wr, b ∈ T :: wr := fun b hb => List.mem_cons_of_mem _ hb
  have kept : ∀ {z z' : Shared}, Moved wr G z z' → (∀ b ob, h0.get? b = some ob → z.heap.get? b = some ob) → ∀ b ob, h0.get? b = some ob → z'.heap.get? b = some ob := fun hm hk b ob e =>
    hm.heap b ob (fun hb => by rw [w0 b hb] at e; cases e) (hk b ob e)
  intro k
  induction k with
  | zero =>
    intro i z hk hi hst hkp hS hR
    obtain rfl : i = n := by omega
    refine codeAny_builtin F.entry_set_update_loop ?_
    rw [Around.under_plainId F.plain_set_update_loop _]
    show wpAny _ B.in1 (pyNext (.ref I) >>= _) _ _ z
    refine wpAny_bind (W.done z _ _ hst fun z' hm => ?_)
    show wpAny _ B.in1 (ret Value.none) _ _ z'
    rw [hn, List.take_length] at hS
    exact wpAny_pure (hR z' (hm.mono up) (hS.keep fun ob e => hm.heap T ob nTw e) (kept hm hkp))
  | succ k ih =>
    intro i z hk hi hst hkp hS hR
    have lt : i < n := by omega
    refine codeAny_builtin F.entry_set_update_loop ?_
    rw [Around.under_plainId F.plain_set_update_loop _]
    show wpAny _ B.in1 (pyNext (.ref I) >>= _) _ _ z
    refine wpAny_bind (W.item i z _ _ lt hst fun v z' hP hst' hm => ?_)
    obtain ⟨x, u, hx, rfl⟩ := val i v hP
    obtain ⟨m, lm, hT⟩ := hS.keep (h' := z'.heap) fun ob e => hm.heap T ob nTw e
    have kp := kept hm hkp
    show wpAny _ B.in1 (holding [Value.str x u] (setAdd T (.str x u)) >>= _) _ _ z'
    refine wpAny_bind (wpAny_holding ?_)
    unfold setAdd
    refine wpAny_holding ?_
    refine wpAny_bind ((kn P w).pyHash (k := x) (PySem.strKind_is P w x u) ?_)
    rw [List.length_take] at lm
    refine put_hashed (z := { z' with toks := z'.toks + 1 }) hT (by unfold scanBound; omega) fun h' sb hS2 => ?_
    have hS3 : Has w h' T (xs.take (i + 1)) := by
      refine ⟨_, ?_, hS2.as fun k => ?_⟩
      · rw [List.length_take]
        split <;> omega
      · rw [List.take_add_one, hx]
        simp only [Option.toList, List.mem_append, List.mem_singleton]
        by_cases h1 : k ∈ xs.take i <;> by_cases h2 : k = x <;> simp [h1, h2]
    refine wpAny_pure ⟨plainId_quiet F.plain_set_update_loop _, ih (i + 1) _ (by omega) lt (W.frame _ z' _ _ hst' (Nat.le_succ _) fun b hb ob e => ?_) (fun b ob e => ?_) hS3 fun z2 hm2 hS4 kp2 => ?_⟩
    · rw [sb.2 b (fun h : b = T => nT (by rw [← h]; exact hb))]
      exact e
    · rw [sb.2 b (fun h : b = T => by rw [h, t0] at e; cases e)]
      exact kp b ob e
    · refine hR z2 (Moved.trans W.gtrans ((hm.mono up).then_heap (Nat.le_succ _) fun b ob hb e => ?_) hm2) hS4 kp2
      rw [sb.2 b (fun h : b = T => hb (by rw [h]; exact List.mem_cons_self))]
      exact e
def newS (w : World) : Obj := { cls := .type "set", dict := none, data := .set #[] 0 (.fresh 0 0 (!w.params.followText "set-order")) }
/-- set(xs), xs a list of texts -/
theorem set_of_texts {l : Addr} {its : Array Value} {xs : List Str} {Q : Value → Shared → Prop} (hh : B.handled = none) (hl : z.heap.IsList l its) (hi : PyProof.Rows.StrsAre its.toList xs) (few : xs.length < 64)
    (k : ∀ (h' : Heap) (tk : Nat), Has w h' z.heap.objs.size xs → (∀ b ob, z.heap.get? b = some ob → h'.get? b = some ob) → Q (.ref z.heap.objs.size) { z with heap := h', toks := tk }) :
    wpAny (model P w) B (call (.type "set") [.ref l]) Q E z := by
  obtain ⟨hp, g, d, tk0, os⟩ := z
  have hlen : its.size = xs.length := by
    have := hi.length
    rw [Array.length_toList] at this
    exact this
  obtain ⟨cc, tl, hmro⟩ := PySem.F.called_set.mro
  have made := PySem.F.called_set.made
  have subs := PySem.F.called_set.sub
  have g1 := PySem.F.called_set.notType
  have g2 := PySem.F.called_set.canCreate
  have g3 := PySem.F.typeCall_set_1 (.ref l)
  have q0 : (Code.builtin "type.__call__" ⟨[.type "set", .ref l], []⟩).quiet = true := Code.quiet_builtin _ (by decide +kernel)
  refine wpAny_call (codeAny_of_tree (show wpAny _ _ (callAny (.type "set") ⟨[.ref l], []⟩) _ _ _ from wpAny_pure ⟨q0, codeAny_builtin PySem.F.entry_type_call ?_⟩))
  rw [Around.under_plain (weight_type_call_type "set" [.ref l] []) rfl]
  repeat (any_goals (first | assumption | wp_step))
  refine codeAny_mono (code_set_led1 (.ref l) (E := E) (Q₁ := fun v s1 => v = .ref hp.objs.size ∧ s1 = ⟨hp.push (newS w), g, d, tk0, os⟩) ⟨rfl, rfl⟩) fun r s1 hr => ?_
  match r, hr with
  | .error e, hr => exact hr
  | .ok (.ret obj), hr =>
    obtain ⟨rfl, rfl⟩ := hr
    have e0 : (hp.push (newS w)).get? hp.objs.size = some (newS w) := Heap.get?_push_size _ rfl
    have tS : (⟨hp.push (newS w), g, d, tk0, os⟩ : Shared).TypeIs (.ref hp.objs.size) "set" := ⟨_, e0, rfl⟩
    have i1 := PySem.F.called_set.init.lookup
    have i2 := PySem.F.called_set.init.bind (.ref hp.objs.size)
    repeat (any_goals (first | assumption | wp_step))
    refine codeAny_mono (codeAny_call_builtin (R := wants (fun v s2 => v = .none ∧ ∃ h' tk, s2 = ⟨h', g, d, tk, os⟩ ∧ Has w h' hp.objs.size xs ∧ ∀ b ob, hp.get? b = some ob → h'.get? b = some ob) E)
      PySem.F.called_set.init.plain PySem.F.entry_set_init (check_set_init_1 tS ?_)) fun r2 s2 hr2 => ?_
    · obtain ⟨⟨oc, od, da, osl⟩, ol, ec, nl, ed⟩ := hl
      simp only at ec ed
      subst ec
      subst ed
      have ol1 : (hp.push (newS w)).get? l = some { cls := .type "list", dict := od, data := .seq its nl, slots := osl } := Heap.get?_push_of_some _ ol
      have k1 := PySem.F.sub_list_set
      have k2 := PySem.F.sub_list_frozenset
      have k3 : (Value.type "list" == Value.type "dict") = false := by decide
      have hl1 : (hp.push (newS w)).IsList l its := ⟨_, ol1, rfl, nl, rfl⟩
      unfold Builtin.«set.__init__» noKeywords Builtin.Frozenset.updateFrom
      generalize ePI : pyIter = PI
      wp_walk
      subst ePI
      refine wpAny_pyIter_list hl1 ?_
      refine wpAny_bind (wpAny_runValue ?_)
      have lS : l < hp.objs.size := Heap.lt_size ol
      have hh3 : B.in1.in1.in1.handled = none := by simp [hh]
      have sz1 : (hp.push (newS w)).objs.size = hp.objs.size + 1 := Heap.size_push ..
      have nI : l ≠ (hp.push (newS w)).objs.size := by rw [sz1]; exact Nat.ne_of_lt (Nat.lt_succ_of_lt lS)
      have nF : hp.objs.size ∉ [(hp.push (newS w)).objs.size, l] := by
        rw [sz1]
        simp only [List.mem_cons, List.mem_singleton, List.not_mem_nil, or_false, not_or]
        exact ⟨Nat.ne_of_lt (Nat.lt_succ_self _), (Nat.ne_of_lt lS).symm⟩
      have none_of : ∀ b, hp.objs.size ≤ b → hp.get? b = none := fun b hb => by
        cases q : hp.get? b with
        | none => rfl
        | some ob => exact absurd (Nat.lt_of_lt_of_le (Heap.lt_size q) hb) (Nat.lt_irrefl _)
      have vals : ∀ (i : Nat) (v : Value), its[i]? = some v → ∃ x u, xs[i]? = some x ∧ v = .str x u := fun i v hv => by
        have hv' : its.toList[i]? = some v := by rw [Array.getElem?_toList]; exact hv
        obtain ⟨u, e⟩ := SS.strs_at hi i v hv'
        have li : i < xs.length := by
          have : i < its.toList.length := (List.getElem?_eq_some_iff.mp hv').1
          rw [Array.length_toList, hlen] at this
          exact this
        refine ⟨xs[i], u, List.getElem?_eq_getElem li, ?_⟩
        rw [e, List.getD_eq_getElem?_getD, List.getElem?_eq_getElem li]
        rfl
      refine texts_in ((Walks.list hh3 _ l nI its).toS) hp.objs.size nF xs hlen few vals hp (none_of _ (Nat.le_refl _)) (fun b hb => none_of b (by rw [List.mem_singleton.mp hb, sz1]; omega)) (its.size - 0) 0 _ (by omega) (Nat.zero_le _)
        ⟨⟨_, Heap.get?_push_size _ rfl, rfl, rfl⟩, (hl1.push _)⟩ (fun b ob e => Heap.get?_push_of_some _ (Heap.get?_push_of_some _ e)) ?fst ?snd
      case fst => exact ⟨0, Nat.zero_le _, (tset_new (Heap.get?_push_of_some _ e0)).as fun k => by simp⟩
      case snd =>
        intro z2 hm hS kp
        obtain ⟨h2, gg, dd, tk2, oo⟩ := z2
        obtain rfl : gg = g := hm.gens
        obtain rfl : dd = d := hm.drawn
        obtain rfl : oo = os := hm.os
        show wpAny _ _ _ _ _ _
        refine wpAny_pure ?_
        show wpAny _ _ (ret Value.none) _ _ _
        exact wpAny_pure ⟨rfl, h2, tk2, rfl, hS, kp⟩
    · match r2, hr2 with
      | .error e, hr2 => exact hr2
      | .ok (.ret r), hr2 =>
        obtain ⟨rfl, h', tk, rfl, hS, kp⟩ := hr2
        repeat (any_goals (first | assumption | wp_step))
        exact k _ _ hS kp
      | .ok .next, hr2 => exact hr2.elim
      | .ok .brk, hr2 => exact hr2.elim
      | .ok .cont, hr2 => exact hr2.elim
  | .ok .next, hr => exact hr.elim
  | .ok .brk, hr => exact hr.elim
  | .ok .cont, hr => exact hr.elim
end
end TX
set_option Elab.async false
set_option linter.all false
set_option maxRecDepth 100000
set_option maxHeartbeats 3200000
/-! sorted(set of texts); both as rules -/
namespace TX
open PySem PySem.Spec PyProof.Rows L2
def txV : Value → Str
  | .str x _ => x
  | _ => Str.empty
theorem strs_txV : ∀ (l : List Value), (∀ v ∈ l, ∃ x u, v = Value.str x u) → PyProof.Rows.StrsAre l (l.map txV)
  | [], _ => .nil
  | v :: l, h => by
    obtain ⟨x, u, rfl⟩ := h v List.mem_cons_self
    exact .cons x u (strs_txV l fun v hv => h v (List.mem_cons_of_mem _ hv))
section
variable {P : Program} {w : World} {B : Around} {E : Value → Shared → Prop} {z : Shared} {a : Addr}
theorem sorted_texts {M : Str → Bool} {n : Nat} {Q : Value → Shared → Prop} (R : TSet w z.heap a M n) (hh : B.handled = none) (h64 : n < 64)
    (hQ : ∀ z' p (out : Array Value) (c : Nat) (ns : List Str), (∀ b ob, z.heap.get? b = some ob → z'.heap.get? b = some ob) → z'.gens = z.gens → z'.os = z.os → z.heap.objs.size ≤ p →
      z'.heap.get? p = some (seqObj "list" out c) → PyProof.Rows.StrsAre out.toList ns → sortedS ns = true → ns.Nodup → (∀ k, k ∈ ns ↔ M k = true) → ns.length = n → Q (.ref p) z') :
    wpAny (model P w) B (call (.builtin "sorted") [.ref a]) Q E z := by
  obtain ⟨ob, es, ep, t, e0, ex, e1, g, nd, hm, hb, hf, hn, hr, hl⟩ := R
  refine Calls.call_function_entry kind_sorted plain_sorted entry_sorted (args_sorted1 _) ?_
  unfold Builtin.«sorted»
  apply wpAny_bind (m := checkCount "sorted" 1 1 _); apply wpAny_pure
  apply wpAny_bind; refine collect_set (A := B.in1) hh ⟨ob, e0, ex.1, e1⟩ hf hb hr hl fun z1 vs k1 sz g1 o1 pm => ?_
  have vl : vs.length = n := by
    exact (pm.length_eq.trans (List.length_map _)).trans (Array.length_toList.trans hn)
  have hI : PyProof.Rows.StrsAre vs (vs.map txV) := strs_txV vs fun v hv => by
    obtain ⟨e, he, q⟩ := List.mem_map.mp (pm.mem_iff.mp hv)
    obtain ⟨k, u, q1, _⟩ := g e he
    exact ⟨k, u, by rw [← q]; exact q1⟩
  have pk : (vs.map txV).Perm (es.toList.map kS) := by
    have q := pm.map txV
    rw [List.map_map] at q
    have e : es.toList.map (txV ∘ fun e => e.2) = es.toList.map kS := List.map_congr_left fun e he => by
      obtain ⟨k, u, q1, _⟩ := g e he
      show txV e.2 = kS e
      unfold kS
      rw [q1]
      rfl
    rw [e] at q
    exact q
  apply wpAny_bind; refine wpAny_newList ?_ (by rw [vl, sizeLine_eq]; omega)
  have eL : (z1.heap.push (seqObj "list" vs.toArray 0)).get? z1.heap.objs.size = some (seqObj "list" vs.toArray 0) := Heap.get?_push_size _ rfl
  apply wpAny_bind; apply wpAny_holding
  refine wpAny_call_entry slot_list_sort ⟨_, eL, rfl⟩ entry_list_sort (list_sort_treeK strKind_oneLt eL hI.keysOf (fun v₁ v₂ rest e => keyKind_strs (by rw [← e]; exact hI)) (by rw [vl]; exact h64) fun st q1 q2 => ⟨_, rfl, ?_⟩) (args_list_sort _)
  obtain ⟨ys, p1, p2, p3⟩ := sorted_out_str hI q1 q2
  obtain ⟨c, hc⟩ := sortedHeap_at (vs := vs) (out := (arrOf st).map (·.2)) eL
  have pn : ys.Perm (es.toList.map kS) := p2.trans pk
  refine wpAny_pure ⟨_, rfl, hQ _ z1.heap.objs.size _ c ys (fun b u e => ?_) g1 o1 sz hc p1 p3 (pn.nodup_iff.mpr nd) (fun k => by rw [pn.mem_iff, ← hm k]) ?_⟩
  · have q := k1 b u e
    have lt := Heap.lt_size q
    show (sortedHeap (z1.heap.push (seqObj "list" vs.toArray 0)) z1.heap.objs.size vs ((arrOf st).map (·.2))).get? b = some u
    rw [sortedHeap_old (Nat.ne_of_lt lt) (by rw [size_push']; exact Nat.lt_succ_of_lt lt)]
    exact Heap.get?_push_of_some _ q
  · exact (pn.length_eq.trans (List.length_map _)).trans (Array.length_toList.trans hn)
end
/-- the set of some texts -/
def SetX (w : World) (a : Addr) (xs : List Str) : HO := .ext fun h => Has w h a xs
theorem setX_ok {P : Program} {w : World} {H : Hp} {h : Heap} {a : Addr} {xs : List Str} (R : Has w h a xs) : ObjOk P w H h a (SetX w a xs) := by
  have ⟨n, _, ob, _, _, _, e0, _⟩ := R
  exact ⟨R, ⟨ob, e0⟩, fun h1 h2 p k => Has.keep p k⟩
section
variable {X : Cx}
def rSetX (K : PySem.W.Frag) (w : World) : List V → Hp → VK → Prop := fun vs H Q => ∃ (l : Addr) (xs : List Str), vs = [V.ref l] ∧ SqL K H l (xs.map V.str) ∧ xs.length < 64 ∧ ∀ a, H a = none → Q (.ref a) (upd H a (SetX w a xs))
theorem cr_setX (hc : X.calm = true) : CallR X (.type "set") (rSetX X.K X.w) := by
  intro pins s σ H vs us Q I r h
  obtain ⟨l, xs, rfl, hs, h64, q⟩ := h
  obtain ⟨its, rv, hl, _⟩ := I.list hs
  rw [Vals.ref1 r]
  refine set_of_texts (I.ok.hd hc) hl.isList rv.strs h64 fun h' tk hS hk => ?_
  exact ⟨.ref _, _, I.laid (t' := tk) hk (Nat.le_refl _) (setX_ok hS), rfl, q _ (I.hok.fresh (Nat.le_refl _))⟩
def rSortX (w : World) : List V → Hp → VK → Prop := fun vs H Q => ∃ (a : Addr) (xs : List Str), vs = [V.ref a] ∧ H a = some (SetX w a xs) ∧ xs.length < 64 ∧
  ∀ (ys : List Str) (p : Addr), sortedS ys = true → ys.Nodup → (∀ k, k ∈ ys ↔ k ∈ xs) → H p = none → Q (.ref p) (upd H p (.lst (ys.map V.str)))
theorem cr_sortX (hc : X.calm = true) : CallR X (.builtin "sorted") (rSortX X.w) := by
  intro pins s σ H vs us Q I r h
  obtain ⟨a, xs, rfl, ha, h64, q⟩ := h
  have R : Has X.w s.heap a xs := (show ObjOk X.prog X.w H s.heap a (.ext fun h => Has X.w h a xs) from I.hok a _ ha).1
  obtain ⟨n, hn, R⟩ := R
  rw [Vals.ref1 r]
  refine sorted_texts R (I.ok.hd hc) (by omega) fun z' p out c ns k g o hp hg hi hs hd hm hl => ?_
  have hlen : (ns.map V.str).length ≤ sizeLine := by rw [List.length_map, hl, sizeLine_eq]; omega
  have hf : H p = none := I.hok.fresh hp
  have J : Inv X pins σ (upd H p (.lst (ns.map V.str))) { s with heap := z'.heap, gens := z'.gens, drawn := z'.drawn, toks := z'.toks } :=
    I.call (ch := []) (Un.laid k hp hf) (I.hok.laid k hp ⟨hlen, out.toList, c, vals_of_strs hi, hg⟩) (by rw [g]; exact I.bare) (fun _ z => nomatch z)
  have e : z' = { s with heap := z'.heap, gens := z'.gens, drawn := z'.drawn, toks := z'.toks } := by
    cases z'
    cases s
    cases o
    rfl
  rw [e]
  exact ⟨.ref p, _, J, rfl, q ns p hs hd (fun k => by rw [hm k, decide_eq_true_eq]) hf⟩
end
end TX
set_option Elab.async false
set_option linter.all false
set_option maxRecDepth 100000
set_option maxHeartbeats 3200000
/-! set comprehensions with two for, over sets of texts -/
namespace TX
open PySem PySem.Spec PyProof.Rows L2
section
variable {P : Program} {w : World} {B : Around} {E : Value → Shared → Prop} {z : Shared} {a : Addr}
theorem has_type {h : Heap} {xs : List Str} (R : Has w h a xs) : ∃ ob, h.get? a = some ob ∧ ob.ExactSet := by
  obtain ⟨n, _, ob, _, _, _, e0, ex, _⟩ := R
  exact ⟨ob, e0, ex⟩
theorem has_add {xs : List Str} {k : Str} {u : Tok} {Q : Value → Shared → Prop} (R : Has w z.heap a xs) (few : xs.length < 63)
    (hQ : ∀ h', Heap.SameBut a z.heap h' → Has w h' a (xs ++ [k]) → Q .none { z with heap := h', toks := z.toks + 1 }) :
    wpAny (model P w) B (call (.builtin "set.add") [.ref a, .str k u]) Q E z := by
  obtain ⟨ob, e0, ex⟩ := has_type R
  obtain ⟨m, lm, hT⟩ := R
  refine wpAny_call_entry PySem.F.slot_set_add ⟨ob, e0, ex.1⟩ PySem.F.entry_set_add ?_ (PySem.F.args_set_add_2 (.ref a) (.str k u))
  show wpAny (model P w) B.in1 (do
    let _ ← setAdd a (.str k u)
    ret Value.none) _ _ z
  refine wpAny_bind ?_
  unfold setAdd
  refine wpAny_holding ?_
  refine wpAny_bind ((kn P w).pyHash (k := k) (PySem.strKind_is P w k u) ?_)
  refine put_hashed (z := { z with toks := z.toks + 1 }) hT (by unfold scanBound; omega) fun h' sb hS2 => ?_
  refine wpAny_pure ⟨_, rfl, hQ h' sb ⟨_, ?_, hS2.as fun j => ?_⟩⟩
  · rw [List.length_append]
    simp only [List.length_cons, List.length_nil]
    split <;> omega
  · simp only [List.mem_append, List.mem_singleton]
    by_cases h1 : j ∈ xs <;> by_cases h2 : j = k <;> simp [h1, h2]
theorem has_new {h : Heap} (e : h.get? a = some { cls := .type "set", dict := none, data := .set #[] 0 (.fresh 0 0 (!w.params.followText "set-order")) }) : Has w h a [] :=
  ⟨0, Nat.le_refl _, (tset_new e).as fun k => by simp⟩
end
section
variable {X : Cx} {pins : List (Addr × Obj)} {σ : L2.St} {H : Hp} {s : Shared} {E : Value → Shared → Prop} {D : Addr} {Q : Value → Shared → Prop}
theorem addX_ok {acc : List Str} {k : Str} {u : Tok} (I : L2.Inv X pins σ H s) (hD : H D = some (SetX X.w D acc)) (few : acc.length < 63)
    (h : ∀ s' : Shared, L2.Inv X pins σ (upd H D (SetX X.w D (acc ++ [k]))) s' → Q .none s') :
    wpAny (model X.prog X.w) X.A (call (.builtin "set.add") [.ref D, .str k u]) Q E s := by
  have R : Has X.w s.heap D acc := (show ObjOk X.prog X.w H s.heap D (.ext fun h => Has X.w h D acc) from I.hok D _ hD).1
  refine has_add R few fun h' sb new => ?_
  obtain ⟨ob, eo, _⟩ := has_type new
  exact h _ (Inv.write I (by rw [hD]; exact True.intro) (Or.inl rfl) (fun b u hb hu => (sb.2 b hb).trans hu) ⟨ob, eo⟩ (setX_ok new))
end
def tSc2 (w : World) : TI → TG → TT → TI → TG → TT → TE → List Nat → List Nat → TE :=
fun wi g tt wi1 g1 tt1 te vs vs1 σ H Q =>
  wi σ H fun J H1 => ∀ D : Addr, H1 D = none → ∃ W : Nat → Nat → Hp → Prop, (∃ m, W 0 m (upd H1 D (SetX w D []))) ∧
    ∀ (i m : Nat) (H : Hp), W i m H → (J.stop i H ∧ Q (V.ref D) H) ∨ (J.go i H ∧ ∃ Nx : Hp → Prop, (∀ H', Nx H' → ∃ m', m' < m ∧ W (i + 1) m' H') ∧
      ∀ (x : V) (H' : Hp), J.yld i H x H' → g x (wipe σ vs) H' fun σ2 H2 => wipe σ2 vs = wipe σ vs ∧ tt σ2 H2 fun b H3 =>
        if b = true then wi1 σ2 H3 fun J1 H4 => ∃ W1 : Nat → Nat → Hp → Prop, (∃ m, W1 0 m H4) ∧
          ∀ (j k : Nat) (H : Hp), W1 j k H → (J1.stop j H ∧ Nx H) ∨ (J1.go j H ∧ ∃ Nx1 : Hp → Prop, (∀ H', Nx1 H' → ∃ k', k' < k ∧ W1 (j + 1) k' H') ∧
            ∀ (x : V) (H' : Hp), J1.yld j H x H' → g1 x (wipe σ2 vs1) H' fun σ3 H5 => wipe σ3 vs1 = wipe σ2 vs1 ∧ tt1 σ3 H5 fun b H6 =>
              if b = true then te σ3 H6 fun y H7 => ∃ (c : Str) (acc : List Str), y = .str c ∧ H7 D = some (SetX w D acc) ∧ acc.length < 63 ∧ Nx1 (upd H7 D (SetX w D (acc ++ [c]))) else Nx1 H6)
        else Nx H3)
theorem upd_ne' {H : Hp} {a b : Addr} {o : HO} (h : b ≠ a) : upd H a o b = H b := L2.upd_ne h
theorem pe_sc2 {X : Cx} {elt tg iter tg1 iter1 : Expr} {ifs ifs1 : List Expr} {scope : Scope} {own : List (Str × Nat)} {vs1 : List Nat} {pos : Pos} {wi wi1 : TI} {g g1 : TG} {tt tt1 : TT} {te : TE}
    (hc : X.calm = true) (hN : X.N.Nodup) (hi : PI X tg iter wi) (ok : BlkOk X.N X.env.scope scope own) (hv : ∀ i ∈ vs1, i ∈ own.map (·.2))
    (hg : ∀ (s : Shared) (H : Hp) (C : Addr) (cl : List (Str × Addr)) (fp : List Addr), PG (X.blk s H scope (compEnvC scope cl C X.env) fp) tg g)
    (ht : ∀ (s : Shared) (H : Hp) (C : Addr) (cl : List (Str × Addr)) (fp : List Addr), PTs (X.blk s H scope (compEnvC scope cl C X.env) fp) ifs tt)
    (hi1 : ∀ (s : Shared) (H : Hp) (C : Addr) (cl : List (Str × Addr)) (fp : List Addr), PI (X.blk s H scope (compEnvC scope cl C X.env) fp) tg1 iter1 wi1)
    (hg1 : ∀ (s : Shared) (H : Hp) (C : Addr) (cl : List (Str × Addr)) (fp : List Addr), PG (X.blk s H scope (compEnvC scope cl C X.env) fp) tg1 g1)
    (ht1 : ∀ (s : Shared) (H : Hp) (C : Addr) (cl : List (Str × Addr)) (fp : List Addr), PTs (X.blk s H scope (compEnvC scope cl C X.env) fp) ifs1 tt1)
    (he : ∀ (s : Shared) (H : Hp) (C : Addr) (cl : List (Str × Addr)) (fp : List Addr), PE (X.blk s H scope (compEnvC scope cl C X.env) fp) elt te)
    (hs : ∀ x : Value, foldedSetIterable iter X.env x = pure x) (hs1 : ∀ (env : Env) (x : Value), foldedSetIterable iter1 env x = pure x) :
    PE X (sc2 elt tg iter tg1 iter1 ifs ifs1 scope pos) (tSc2 X.w wi g tt wi1 g1 tt1 te (own.map (·.2)) vs1) := by
  refine ⟨fun pins s σ H Q I h => ?_⟩
  rw [PpSet.eval_SetComp]
  have hfree := fun y (hy : y ∈ scope.names) (e : y.2 = NameKind.free) => (ok.free y hy e).elim (fun k => I.ok.has y.1 (.inl k)) (fun k => I.ok.has y.1 (.inr k))
  show wpAny _ _ (comprehension _ scope X.env _ (newSet (Value.type "set")) false (eval iter X.env)) _ _ _
  refine wpAny_comprehension_free rfl hs (closure_ok hfree) ok.kind (fun y hy e => by rw [ok.uniq y hy, e]) ?_
  refine thn (hi.run pins s σ H _ I h) fun xv s1 hx => ?_
  refine thn hx fun itv s2 h2 => ?_
  obtain ⟨it, fp, tn, J, H2, e, I2, T, st2, f2, q⟩ := h2
  subst e
  refine PpSet.newSet_ok ?_
  refine newEnv_comp ?_
  have hDn : H2 s2.heap.objs.size = none := I2.hok.fresh (Nat.le_refl _)
  obtain ⟨W, ⟨m0, w0⟩, turn⟩ := q s2.heap.objs.size hDn
  have I3 := I2.laid (t' := s2.toks) (o := SetX X.w s2.heap.objs.size []) (h' := s2.heap.push { cls := .type "set", dict := none, data := .set #[] 0 (.fresh 0 0 (!X.w.params.followText "set-order")) })
    (fun b o e => Heap.get?_push_of_some _ e) (Nat.le_refl _) (setX_ok (has_new (Heap.get?_push_size _ rfl)))
  generalize hs3 : ({ s2 with heap := s2.heap.push { cls := .type "set", dict := none, data := .set #[] 0 (.fresh 0 0 (!X.w.params.followText "set-order")) } } : Shared) = s3
  have h3 : s3.heap = s2.heap.push { cls := .type "set", dict := none, data := .set #[] 0 (.fresh 0 0 (!X.w.params.followText "set-order")) } := by rw [← hs3]
  have I3 : L2.Inv X pins σ (upd H2 s2.heap.objs.size (SetX X.w s2.heap.objs.size [])) s3 := by rw [← hs3]; exact I3
  generalize hD : s2.heap.objs.size = D at *
  generalize hH3 : upd H2 D (SetX X.w D []) = H3 at *
  have sz : ∀ b ∈ fp, b < D := fun b hb => by
    obtain ⟨o, e, _⟩ := T.obj 0 s2.heap st2 b hb
    rw [← hD]
    exact Heap.lt_size e
  have s3z : s3.heap.objs.size = D + 1 := by rw [h3, Heap.size_push, hD]
  have f3 : ∀ b ∈ fp, FpOk X pins H3 b ∧ b < s3.heap.objs.size := fun b hb => by
    have hlt := sz b hb
    refine ⟨⟨?_, (f2 b hb).2⟩, by rw [s3z]; exact Nat.lt_succ_of_lt hlt⟩
    rw [← hH3, L2.upd_ne (Nat.ne_of_lt hlt)]
    exact (f2 b hb).1
  have st3 : tn 0 s3.heap := T.keep 0 s2.heap s3.heap st2 fun b _ o e => by rw [h3]; exact Heap.get?_push_of_some _ e
  have I4 := block_start I3 ok hN f3
  generalize hce : compEnvC scope (cellsFrom (s3.heap.objs.size + 1) scope.names (cloFrom X.env.cells scope.names [])) s3.heap.objs.size X.env = ce at I4
  have pg : PG (X.blk s3 H3 scope ce fp) tg g := by rw [← hce]; exact hg _ _ _ _ _
  have pt : PTs (X.blk s3 H3 scope ce fp) ifs tt := by rw [← hce]; exact ht _ _ _ _ _
  have pe : PE (X.blk s3 H3 scope ce fp) elt te := by rw [← hce]; exact he _ _ _ _ _
  have pi1 : PI (X.blk s3 H3 scope ce fp) tg1 iter1 wi1 := by rw [← hce]; exact hi1 _ _ _ _ _
  have pg1 : PG (X.blk s3 H3 scope ce fp) tg1 g1 := by rw [← hce]; exact hg1 _ _ _ _ _
  have pt1 : PTs (X.blk s3 H3 scope ce fp) ifs1 tt1 := by rw [← hce]; exact ht1 _ _ _ _ _
  have cL : ce.locals = s3.heap.objs.size := by rw [← hce]; rfl
  have nfp : ∀ b ∈ fp, H3 b = none := fun b hb => (f3 b hb).1.1
  have st4 : tn 0 (pushCells (s3.heap.push { cls := .type "dict", data := .dict #[] }) scope.names) := T.keep 0 s3.heap _ st3 fun b _ o e => pushCells_keeps _ _ _ _ (Heap.get?_push_of_some _ e)
  have stat : ∀ {σ' : L2.St} {H' : Hp} {s' : Shared}, L2.Inv (X.blk s3 H3 scope ce fp) [] σ' H' s' → (∀ b ∈ fp, H' b = none) → ∀ b ∈ fp, FpOk (X.blk s3 H3 scope ce fp) [] H' b := fun I' hn b hb =>
    ⟨hn b hb, (I'.ok.exf b hb).1, I'.ok.exfs b hb, .inl hb, fun x c e => (I'.ok.exf b hb).2 x c e, fun p hp => absurd hp (by simp)⟩
  have goal : codeAny (model X.prog X.w) X.A (Code.compLoop (sc2 elt tg iter tg1 iter1 ifs ifs1 scope pos) 0 (.ref it) (.ref D) ce)
      (compPost (model X.prog X.w) X.A X.xe none (EP X pins σ Q) (.ref D) s3.heap.objs.size)
      { s3 with heap := pushCells (s3.heap.push { cls := .type "dict", data := .dict #[] }) scope.names } := by
    refine s2_out (hs1 ce) (fun n s5 => ∃ i H5, L2.Inv (X.blk s3 H3 scope ce fp) [] (wipe σ (own.map (·.2))) H5 s5 ∧ tn i s5.heap ∧ (∀ b ∈ fp, H5 b = none) ∧ W i n H5) ?_ m0 _ ⟨0, H3, I4, st4, nfp, w0⟩
    rintro n s5 ⟨i, H5, I5, st5, n5, w5⟩
    rcases turn i n H5 w5 with ⟨stop, qq⟩ | ⟨go, Nx, hNx, step⟩
    · refine thnF (T.done (X.blk s3 H3 scope ce fp) rfl rfl rfl hc i [] s5 _ H5 (fun _ _ => False) I5 (stat I5 n5) st5 stop) fun r s6 h6 => ?_
      obtain ⟨rfl, I6⟩ := h6
      have I7 : L2.Inv X pins σ H5 s6 := by
        refine I3.call' (I6.os) I6.base I6.hok I6.bare fun b hb => ?_
        exact ⟨(f3 b hb).1.2.2.2.1, (f3 b hb).1.2.1, (f3 b hb).1.2.2.2.2.1, (f3 b hb).1.2.2.2.2.2⟩
      have nC : H5 s3.heap.objs.size = none := by
        have z := I6.free
        rw [cL] at z
        exact z
      obtain ⟨m, hn, _⟩ := I6.loc
      rw [cL] at hn
      have f := I3.fpOk (H' := H5) (Nat.le_refl _) nC
      refine ⟨m, hn, fun h'' sb => ?_⟩
      obtain ⟨f0, f1, f2', f3', f4, f5⟩ := f
      exact ⟨.ref D, H5, I7.turned (fun b o hb e => (sb.2 b hb).trans e) f0 f1 f3' f4 f5, rfl, qq⟩
    · refine thnF (T.item (X.blk s3 H3 scope ce fp) rfl rfl rfl hc i [] s5 _ H5 (fun _ _ => False) I5 (stat I5 n5) st5 go) fun r s6 h6 => ?_
      obtain ⟨u, rfl, h6⟩ := h6
      refine thnF h6 fun _ s7 h7 => ?_
      obtain ⟨x, H7, I7, r7, y7, st7, n7⟩ := h7
      have I7' := I7.pinned (stat I7 n7) (fun b hb => T.obj _ _ st7 b hb)
      refine thnF (pg.run _ _ _ _ _ _ _ I7' r7 (step x H7 y7)) fun _ s8 h8 => ?_
      obtain ⟨σ8, H8, I8, hw8, q8⟩ := h8
      refine thnF (pt.run _ _ _ _ _ I8 q8) fun b s9 h9 => ?_
      obtain ⟨H9, I9, q9⟩ := h9
      have fin : ∀ {σ9 : L2.St} {s' : Shared} {H' : Hp}, L2.Inv (X.blk s3 H3 scope ce fp) ([] ++ pinsAt fp s7.heap) σ9 H' s' → (wipe σ (own.map (·.2))).length = σ9.length →
          (∀ (j : Nat) (v : V), (wipe σ (own.map (·.2)))[j]? = some (some v) → σ9[j]? = some (some v)) → Nx H' →
          ∃ m, m < n ∧ ∃ i H', L2.Inv (X.blk s3 H3 scope ce fp) [] (wipe σ (own.map (·.2))) H' s' ∧ tn i s'.heap ∧ (∀ b ∈ fp, H' b = none) ∧ W i m H' := by
        intro σ9 s' H' I' hl hk nx
        obtain ⟨m', hm, w'⟩ := hNx H' nx
        have pin' : ∀ b ∈ fp, ∀ o, s7.heap.get? b = some o → s'.heap.get? b = some o ∧ H' b = none := fun b hb o e => by
          have z := I'.pin (b, o) (List.mem_append_right _ (List.mem_append_right _ (mem_pinsAt hb e)))
          exact ⟨z.1, z.2.1⟩
        refine ⟨m', hm, i + 1, H', I'.unpinned.weak hl hk, T.keep _ _ _ st7 (fun b hb o e => (pin' b hb o e).1), fun b hb => ?_, w'⟩
        obtain ⟨o, e, _⟩ := T.obj _ _ st7 b hb
        exact (pin' b hb o e).2
      have hl8 : (wipe σ (own.map (·.2))).length = σ8.length := by
        rw [← hw8, wipe_length]
      have hk8 : ∀ (j : Nat) (v : V), (wipe σ (own.map (·.2)))[j]? = some (some v) → σ8[j]? = some (some v) := fun j v e => by
        rw [← hw8] at e
        exact (wipe_some e).1
      have hk9 : ∀ (j : Nat) (v : V), (wipe σ (own.map (·.2)))[j]? = some (some v) → (wipe σ8 vs1)[j]? = some (some v) := fun j v e => by
        rw [← hw8] at e
        obtain ⟨e1, e2⟩ := wipe_some e
        rw [L2.wipe_out (fun h => e2 (hv j h))]
        exact e1
      cases b with
      | false =>
        rw [if_neg (by decide)] at q9 ⊢
        exact fin I9 hl8 hk8 q9
      | true =>
        rw [if_pos rfl] at q9 ⊢
        refine thnF (pi1.run _ _ _ _ _ I9 q9) fun xv1 s10 hx1 => ?_
        refine thnF hx1 fun itv1 s11 h11 => ?_
        obtain ⟨it1, fp1, tn1, J1, H11, e1, I11, T1, st11, f11, W1, ⟨m1, w1⟩, turn1⟩ := h11
        subst e1
        have stat1 : ∀ {H' : Hp}, (∀ b ∈ fp1, H' b = none) → ∀ b ∈ fp1, FpOk (X.blk s3 H3 scope ce fp) ([] ++ pinsAt fp s7.heap) H' b := fun hn b hb => ⟨hn b hb, (f11 b hb).2⟩
        have loop1 : codeAny (model X.prog X.w) X.A (Code.compLoop (sc2 elt tg iter tg1 iter1 ifs ifs1 scope pos) 1 (.ref it1) (.ref D) ce)
            (fun r s' => match r with
              | .ok _ => ∃ m, m < n ∧ ∃ i H', L2.Inv (X.blk s3 H3 scope ce fp) [] (wipe σ (own.map (·.2))) H' s' ∧ tn i s'.heap ∧ (∀ b ∈ fp, H' b = none) ∧ W i m H'
              | .error _ => False) s11 := by
          refine s2_in (fun k s12 => ∃ j H12, L2.Inv (X.blk s3 H3 scope ce fp) ([] ++ pinsAt fp s7.heap) (wipe σ8 vs1) H12 s12 ∧ tn1 j s12.heap ∧ (∀ b ∈ fp1, H12 b = none) ∧ W1 j k H12) ?_ m1 _
            ⟨0, H11, I11.weak (wipe_length _ _) (fun j v e => (wipe_some e).1), st11, fun b hb => (f11 b hb).1, w1⟩
          rintro k s12 ⟨j, H12, I12, st12, n12, w12⟩
          rcases turn1 j k H12 w12 with ⟨stop1, nx1⟩ | ⟨go1, Nx1, hNx1, step1⟩
          · refine thnF (T1.done (X.blk s3 H3 scope ce fp) rfl rfl rfl hc j _ s12 _ H12 (fun _ _ => False) I12 (stat1 n12) st12 stop1) fun r s13 h13 => ?_
            obtain ⟨rfl, I13⟩ := h13
            exact fin I13 (hl8.trans (wipe_length _ _).symm) hk9 nx1
          · refine thnF (T1.item (X.blk s3 H3 scope ce fp) rfl rfl rfl hc j _ s12 _ H12 (fun _ _ => False) I12 (stat1 n12) st12 go1) fun r s13 h13 => ?_
            obtain ⟨u1, rfl, h13⟩ := h13
            refine thnF h13 fun _ s14 h14 => ?_
            obtain ⟨x1, H14, I14, r14, y14, st14, n14⟩ := h14
            have I14' := I14.pinned (stat1 n14) (fun b hb => T1.obj _ _ st14 b hb)
            refine thnF (pg1.run _ _ _ _ _ _ _ I14' r14 (step1 x1 H14 y14)) fun _ s15 h15 => ?_
            obtain ⟨σ15, H15, I15, hw15, q15⟩ := h15
            refine thnF (pt1.run _ _ _ _ _ I15 q15) fun b s16 h16 => ?_
            obtain ⟨H16, I16, q16⟩ := h16
            have fin1 : ∀ {s' : Shared} {H' : Hp}, L2.Inv (X.blk s3 H3 scope ce fp) (([] ++ pinsAt fp s7.heap) ++ pinsAt fp1 s14.heap) σ15 H' s' → Nx1 H' →
                ∃ m, m < k ∧ ∃ j H', L2.Inv (X.blk s3 H3 scope ce fp) ([] ++ pinsAt fp s7.heap) (wipe σ8 vs1) H' s' ∧ tn1 j s'.heap ∧ (∀ b ∈ fp1, H' b = none) ∧ W1 j m H' := by
              intro s' H' I' nx
              obtain ⟨m', hm, w'⟩ := hNx1 H' nx
              have pin' : ∀ b ∈ fp1, ∀ o, s14.heap.get? b = some o → s'.heap.get? b = some o ∧ H' b = none := fun b hb o e => by
                have z := I'.pin (b, o) (List.mem_append_right _ (List.mem_append_right _ (mem_pinsAt hb e)))
                exact ⟨z.1, z.2.1⟩
              refine ⟨m', hm, j + 1, H', I'.unpinned.weak ?_ (fun j v e => ?_), T1.keep _ _ _ st14 (fun b hb o e => (pin' b hb o e).1), fun b hb => ?_, w'⟩
              · rw [← hw15, wipe_length]
              · rw [← hw15] at e
                exact (wipe_some e).1
              · obtain ⟨o, e, _⟩ := T1.obj _ _ st14 b hb
                exact (pin' b hb o e).2
            cases b with
            | false =>
              rw [if_neg (by decide)] at q16 ⊢
              exact fin1 I16 q16
            | true =>
              rw [if_pos rfl] at q16 ⊢
              refine thnF (pe.run _ _ _ _ _ I16 q16) fun z s17 h17 => ?_
              obtain ⟨yv, H17, I17, r17, c, acc, rfl, hD17, few, nx⟩ := h17
              obtain ⟨u, rfl⟩ : ∃ u, z = .str c u := r17
              exact addX_ok (X := X.blk s3 H3 scope ce fp) I17 hD17 few fun s18 I18 => fin1 I18 nx
        exact start1 loop1 (T1.self _ 0 _ _ _ st11 loop1)
  show codeAny (model X.prog X.w) X.A (Code.compStart (sc2 elt tg iter tg1 iter1 ifs ifs1 scope pos) 0 (.ref it) (.ref D) (compEnvC scope (cellsFrom (s3.heap.objs.size + 1) scope.names (cloFrom X.env.cells scope.names [])) s3.heap.objs.size X.env)) _ _
  rw [hce]
  exact start0 goal (T.self _ 0 _ _ _ st4 goal)
end TX
set_option Elab.async false
set_option linter.all false
set_option maxRecDepth 100000
set_option maxHeartbeats 3200000
/-! sorted of a list of data -/
namespace SDt
open PySem PySem.Spec PyProof.Rows L2
open PySem.W (dataLe EachIs AllAlike Sortable)
theorem eachIs_of {α β : Type} {R : α → β → Prop} : ∀ {as : List α} {bs : List β}, as.length = bs.length → (∀ (i : Nat) a b, as[i]? = some a → bs[i]? = some b → R a b) → EachIs R as bs
  | [], [], _, _ => .nil
  | a :: as, b :: bs, h, f => .cons (f 0 a b rfl rfl) (eachIs_of (Nat.succ.inj h) fun i x y h1 h2 => f (i + 1) x y h1 h2)
theorem vals_each {Z : List (V × PyData)} : ∀ {us : List Value}, Vals (Z.map (·.1)) us → EachIs (fun u (b : V × PyData) => RelV b.1 u) us Z := by
  induction Z with
  | nil =>
    intro us h
    cases h
    exact .nil
  | cons b Z ih =>
    intro us h
    cases h with
    | cons r h => exact .cons r (ih h)
theorem each_vals {Z : List (V × PyData)} {us : List Value} (h : EachIs (fun u (b : V × PyData) => RelV b.1 u) us Z) : Vals (Z.map (·.1)) us := by
  induction h with
  | nil => exact .nil
  | cons r _ ih => exact .cons r ih
theorem each_imp {α β : Type} {R S : α → β → Prop} {us : List α} {bs : List β} (h : EachIs R us bs) (f : ∀ a b, b ∈ bs → R a b → S a b) : EachIs S us bs := by
  induction h with
  | nil => exact .nil
  | cons r _ ih => exact .cons (f _ _ List.mem_cons_self r) (ih fun a b hb => f a b (List.mem_cons_of_mem _ hb))
variable {X : Cx}
def rSortD (K : PySem.W.Frag) : List V → Hp → VK → Prop := fun vs H Q => ∃ (a : Addr) (bs : List (V × PyData)), vs = [V.ref a] ∧ SqL K H a (bs.map (·.1)) ∧ (∀ b ∈ bs, Dp K H b.1 b.2) ∧ AllAlike (bs.map (·.2)) ∧ Sortable (bs.map (·.2)) ∧
  bs.length ≤ 1000 ∧ (∀ b ∈ bs, b.2.depth ≤ 20) ∧ ∀ p, H p = none → Q (.ref p) (upd H p (.lst ((bs.mergeSort (dataLe false (·.2))).map (·.1))))
theorem cr_sortD (hu : X.A.units + 64 < cLine) : CallR X (.builtin "sorted") (rSortD X.K) := by
  intro pins s σ H vs us Q I r h
  obtain ⟨a, bs, rfl, hs, hd, h1, h2, h3, h4, q⟩ := h
  obtain ⟨its, rv, hl, _⟩ := I.list hs
  rw [Vals.ref1 r]
  refine PySem.W.sorted_data (vs := its) (bs := bs) (enc := (·.2)) (R := fun u b => RelV b.1 u) (by simpa using hl.isList) (vals_each rv) (each_imp (vals_each rv) fun u b hb r => (hd b hb).reads I _ _ _ r) h1 h2 (by rw [sizeLine_eq]; omega) (fun b hb => by have := h4 b hb; omega) fun out hlen ho => ?_
  obtain ⟨ep, he'⟩ := sortedAll_at s.heap its out.toArray
  have hv := each_vals ho
  refine ⟨.ref _, upd H (s.heap.objs.size + 1) (.lst ((bs.mergeSort (dataLe false (·.2))).map (·.1))), I.laid (t' := s.toks) (fun _ _ => sortedAll_old) (Nat.le_succ _) ⟨?_, out, ep, hv, he'⟩, rfl, q _ (I.hok.fresh (Nat.le_succ _))⟩
  rw [List.length_map, List.length_mergeSort, sizeLine_eq]
  omega
end SDt
set_option Elab.async false
set_option linter.all false
set_option maxRecDepth 100000
set_option maxHeartbeats 4000000
namespace Wq
open PySem PySem.Spec PyProof.Rows L2
open TX (SetX Has TSet kS)
/-! isinstance(x, (list, tuple)), len(set of texts) -/
theorem kitAny2 {K : PySem.W.Frag} {t a b : Value} {x y : Bool} (h1 : PySem.W.kitOne K t a = some x) (h2 : PySem.W.kitOne K t b = some y) : PySem.W.kitAny K t [a, b] = some (x || y) := by
  unfold PySem.W.kitAny PySem.W.kitAny PySem.W.kitAny
  rw [h1, h2]
  cases x <;> cases y <;> rfl
inductive Sq (K : PySem.W.Frag) (H : Hp) : V → Bool → Prop
  | non : Sq K H .non false
  | int (i : Int) : Sq K H (.int i) false
  | str (x : Str) : Sq K H (.str x) false
  | lst {a xs} : H a = some (.lst xs) → Sq K H (.ref a) true
  | tup {a xs} : H a = some (.tup xs) → Sq K H (.ref a) true
theorem Sq.same {K : PySem.W.Frag} {H G : Hp} {v : V} {b : Bool} (h : Sq K H v b) (s : Same H G) : Sq K G v b := by
  cases h with
  | non => exact .non
  | int i => exact .int i
  | str x => exact .str x
  | lst h => exact .lst (s _ _ h)
  | tup h => exact .tup (s _ _ h)
theorem Sq.ty {K : PySem.W.Frag} {H : Hp} {v : V} {b : Bool} (h : Sq K H v b) : ∃ t, TyX K H v (.type t) ∧ PySem.W.kitAny K (.type t) [.type "list", .type "tuple"] = some b := by
  cases h with
  | non => exact ⟨_, .base .non, kitAny2 (x := false) (y := false) (kit_ty (by decide +kernel)) (kit_ty (by decide +kernel))⟩
  | int i => exact ⟨_, .base (.int i), kitAny2 (x := false) (y := false) (kit_ty (by decide +kernel)) (kit_ty (by decide +kernel))⟩
  | str x => exact ⟨_, .base (.str x), kitAny2 (x := false) (y := false) (kit_ty (by decide +kernel)) (kit_ty (by decide +kernel))⟩
  | lst h => exact ⟨_, .base (.lst h), kitAny2 (x := true) (y := false) (kit_ty (by decide +kernel)) (kit_ty (by decide +kernel))⟩
  | tup h => exact ⟨_, .base (.tup h), kitAny2 (x := false) (y := true) (kit_ty (by decide +kernel)) (kit_ty (by decide +kernel))⟩
section
variable {X : Cx}
theorem isi_read {K : PySem.W.Frag} {H : Hp} {x : V} {b : Bool} {tp : Addr} {Q : VK} (h : Sq K H x b) (ht : H tp = none) (k : ∀ G, Same H G → Q (.bl b) G) : rIsiT K [x, .ref tp] (upd H tp (.tup [.ty "list", .ty "tuple"])) Q := by
  obtain ⟨t, h1, h2⟩ := (h.same (Same.new (o := .tup [.ty "list", .ty "tuple"]) ht)).ty
  exact ⟨x, tp, _, _, _, _, rfl, upd_same, .cons (.ty "list") (.cons (.ty "tuple") .nil), h1, h2, k _ (Same.new ht)⟩
def rLenX (w : World) : List V → Hp → VK → Prop := fun vs H Q => ∃ (a : Addr) (xs : List Str), vs = [.ref a] ∧ H a = some (SetX w a xs) ∧ xs.length < 64 ∧ ∀ n : Nat, (xs.Nodup → n = xs.length) → (∀ k, xs = [k, k] → n = 1) → Q (.int n) H
theorem perm_of {l m : List Str} (h1 : l.Nodup) (h2 : m.Nodup) (h : ∀ x, x ∈ l ↔ x ∈ m) : l.length = m.length := by
  induction l generalizing m with
  | nil =>
    cases m with
    | nil => rfl
    | cons x m => exact absurd ((h x).mpr List.mem_cons_self) (by simp)
  | cons x l ih =>
    have hx := (h x).mp List.mem_cons_self
    obtain ⟨n1, n2⟩ := List.nodup_cons.mp h1
    have e := List.length_erase_of_mem hx
    have hp : 0 < m.length := List.length_pos_of_mem hx
    have := ih n2 (h2.erase x) fun y => by
      rw [h2.mem_erase_iff]
      constructor
      · intro hy
        exact ⟨fun e => n1 (e ▸ hy), (h y).mp (List.mem_cons_of_mem _ hy)⟩
      · rintro ⟨hn, hy⟩
        rcases List.mem_cons.mp ((h y).mpr hy) with e | e
        · exact absurd e hn
        · exact e
    rw [List.length_cons, this, e]
    omega
theorem call_lenX : CallR X (.builtin "len") (rLenX X.w) := by
  intro pins s σ H vs us Q I r h
  obtain ⟨a, xs, rfl, ha, h64, q⟩ := h
  have R : Has X.w s.heap a xs := (show ObjOk X.prog X.w H s.heap a (.ext fun h => Has X.w h a xs) from I.hok a _ ha).1
  obtain ⟨n, hn, ob, es, ep, t, e0, ex, e1, g, nd, hm, hb, hf, hsz, hr, hl⟩ := R
  obtain ⟨u, rfl, ru⟩ := vals1 r
  cases ru
  have hb : es.size < 4096 := hb
  have hL : (es.toList.map kS).length = n := by rw [List.length_map, Array.length_toList, hsz]
  refine call_len_set e0 ex e1 hf (by omega) ⟨.int n, H, I.tok _, ⟨_, by rw [hsz]⟩, q n (fun h => ?_) fun k e => ?_⟩
  · rw [← hL]
    exact perm_of nd h fun x => by rw [← hm x, decide_eq_true_eq]
  · rw [← hL]
    refine perm_of (m := [k]) nd (by simp) fun x => ?_
    rw [← hm x, decide_eq_true_eq, e]
    simp
end
end Wq
set_option Elab.async false
set_option linter.all false
set_option maxRecDepth 100000
/-! the order of rows -/
namespace Kd
open PySem
open PySem.W (dataLe AllAlike Sortable)
def enc (q : Rw) : PyData := .tuple [.int (-q.2), .str q.1]
def leD (a b : PyData) : Bool := dataLe false (fun d : PyData => d) a b
def leR (p q : Rw) : Bool := leD (enc p) (enc q)
def blD (a b : PyData) : Bool := (PyProof.Rows.listOrd PyProof.Rows.itemOrd).blt (PySem.W.keyToks a) (PySem.W.keyToks b)
theorem leD_eq (a b : PyData) : leD a b = !blD b a := rfl
theorem leD_total (a b : PyData) : (leD a b || leD b a) = true := by
  rw [leD_eq, leD_eq]
  cases h : blD b a with
  | false => rfl
  | true =>
    cases h2 : blD a b with
    | false => rfl
    | true =>
      have h3 : blD b b = true := (PyProof.Rows.listOrd PyProof.Rows.itemOrd).trans _ _ _ h h2
      rw [show blD b b = false from (PyProof.Rows.listOrd PyProof.Rows.itemOrd).irrefl _] at h3
      cases h3
theorem leD_trans (a b c : PyData) (h1 : leD a b = true) (h2 : leD b c = true) : leD a c = true := by
  rw [leD_eq, Bool.not_eq_true'] at *
  cases h : blD c a with
  | false => rfl
  | true =>
    have q : blD c b = true ∨ blD b a = true := (PyProof.Rows.listOrd PyProof.Rows.itemOrd).negTrans _ (PySem.W.keyToks b) _ h
    rw [h1, h2] at q
    rcases q with q | q <;> cases q
theorem srt_pair (l : List PyData) : (l.mergeSort leD).Pairwise fun a b => leD a b = true := List.pairwise_mergeSort leD_trans leD_total l
theorem srt_perm (l : List PyData) : (l.mergeSort leD).Perm l := List.mergeSort_perm l leD
theorem srt_self {rs : List Rw} (h : rs.Pairwise fun p q => leR p q = true) : (rs.map enc).mergeSort leD = rs.map enc :=
  List.mergeSort_of_pairwise (List.pairwise_map.mpr h)
theorem enc_eqv (p q : Rw) : (enc p).eqv (enc q) = decide (p = q) := by
  obtain ⟨a, m⟩ := p
  obtain ⟨b, n⟩ := q
  show PyData.eqv (.tuple [.int (-m), .str a]) (.tuple [.int (-n), .str b]) = _
  simp only [PyData.eqv, PyData.eqvAll, Prod.mk.injEq]
  by_cases h1 : a = b <;> by_cases h2 : m = n <;> simp [h1, h2]
theorem encs_eqv : ∀ rs ss : List Rw, PyData.eqvAll (rs.map enc) (ss.map enc) = decide (rs = ss)
  | [], [] => by simp [PyData.eqvAll]
  | [], _ :: _ => by simp [PyData.eqvAll]
  | _ :: _, [] => by simp [PyData.eqvAll]
  | p :: rs, q :: ss => by
    show ((enc p).eqv (enc q) && PyData.eqvAll (rs.map enc) (ss.map enc)) = _
    rw [enc_eqv, encs_eqv rs ss]
    by_cases h1 : p = q <;> by_cases h2 : rs = ss <;> simp [h1, h2]
theorem list_eqv (rs ss : List Rw) : PyData.eqv (.list (rs.map enc)) (.list (ss.map enc)) = decide (rs = ss) := by
  rw [← encs_eqv]
  simp [PyData.eqv]
theorem enc_alike (p q : Rw) : PySem.W.alike (enc p) (enc q) = true := by
  simp [enc, PySem.W.alike, PySem.W.alikeAll]
/-- the rows in their order -/
theorem rows_srt (rs : List Rw) : ∃ ss : List Rw, (rs.map enc).mergeSort leD = ss.map enc ∧ ss.Perm rs ∧ ss.Pairwise fun p q => leR p q = true := by
  have e : (rs.mergeSort leR).map enc = (rs.map enc).mergeSort leD := PySem.W.sort_maps enc fun a _ b _ => rfl
  refine ⟨rs.mergeSort leR, e.symm, List.mergeSort_perm _ _, ?_⟩
  have := srt_pair (rs.map enc)
  rw [← e] at this
  exact List.pairwise_map.mp this
theorem srt_two {p q : Rw} (h : leR p q = false) : ([p, q].map enc).mergeSort leD ≠ [p, q].map enc := by
  intro e
  have := srt_pair ([p, q].map enc)
  rw [e] at this
  have := List.pairwise_map.mp this
  have this : leR p q = true := (List.pairwise_cons.mp this).1 q List.mem_cons_self
  rw [h] at this
  cases this
theorem le_ab : leR ("a", 1) ("b", 2) = false := by decide +kernel
theorem le_ba : leR ("b", 1) ("a", 1) = false := by decide +kernel
theorem le_aa : leR ("a", 2) ("a", 1) = true := by decide +kernel
end Kd
set_option Elab.async false
set_option linter.all false
set_option maxRecDepth 100000
set_option maxHeartbeats 8000000
namespace Wq
open PySem PySem.Spec PyProof.Rows L2
open Kd (Pt Rw told most lm sumO least mostO lmost below ahead sureL openL enc leR leD)
/-! are_first_rows -/
def RwOk (q : Rw) : Prop := fText (.str q.1) = true ∧ q.1.cps.size ≤ 60 ∧ (∀ c ∈ q.1.cps.toList, c < 128) ∧ 1 ≤ q.2 ∧ q.2 < 1000
inductive ItV (H : Hp) : V → Option Rw → Prop
  | ok {a : Addr} {q : Rw} : H a = some (rwV q) → RwOk q → ItV H (.ref a) (some q)
  | few {a : Addr} {q : Rw} : H a = some (rwV q) → fText (.str q.1) = true → q.1.cps.size ≤ 60 → (∀ c ∈ q.1.cps.toList, c < 128) → q.2.natAbs < 1000 → q.2 < 1 → ItV H (.ref a) none
  | int {a : Addr} {i j : Int} : H a = some (.tup [.int i, .int j]) → i.natAbs < 1000 → ItV H (.ref a) none
  | bl {a : Addr} {x : Str} {b : Bool} : H a = some (.tup [.str x, .bl b]) → fText (.str x) = true → x.cps.size ≤ 60 → (∀ c ∈ x.cps.toList, c < 128) → ItV H (.ref a) none
  | one {a : Addr} {x : V} : H a = some (.tup [x]) → ItV H (.ref a) none
  | txt (x : Str) : ItV H (.str x) none
theorem ItV.same {H G : Hp} {v : V} {o : Option Rw} (h : ItV H v o) (s : Same H G) : ItV G v o := by
  cases h with
  | ok h1 h2 => exact .ok (s _ _ h1) h2
  | few h1 h2 h3 h4 h5 h6 => exact .few (s _ _ h1) h2 h3 h4 h5 h6
  | int h1 h2 => exact .int (s _ _ h1) h2
  | bl h1 h2 h3 h4 => exact .bl (s _ _ h1) h2 h3 h4
  | one h1 => exact .one (s _ _ h1)
  | txt x => exact .txt x
abbrev sAF : Stmt := top 10
abbrev NAF : List Str := ["value", "told", "row", "text", "many", "_"]
theorem scAF : FnScope NAF ["value"] (defScope sAF) := ⟨rfl, rfl, rfl, by decide +kernel, rfl, by decide +kernel, by decide +kernel⟩
structure TxtA (mg : Str → Option Value) : Prop where
  sorted : mg "sorted" = none
  sum : mg "sum" = none
  dict : mg "dict" = none
/-- what is told of a value's rows -/
inductive AfR : List (Option Rw) → Bool → Prop
  | bad {os} : none ∈ os → AfR os false
  | good {rs : List Rw} : (rs.Pairwise fun p q => leR p q = true) → (rs.map (·.1)).Nodup → AfR (rs.map some) true
  | un {p q : Rw} : leR p q = false → AfR [some p, some q] false
  | dbl {p q : Rw} : leR p q = true → p.1 = q.1 → AfR [some p, some q] false
def ItsV (H : Hp) (vs : List V) (os : List (Option Rw)) : Prop := vs.length = os.length ∧ ∀ (i : Nat) v o, vs[i]? = some v → os[i]? = some o → ItV H v o
inductive AfV (K : PySem.W.Frag) (H : Hp) : V → Bool → Prop
  | no {u : V} : Sq K H u false → AfV K H u false
  | rows {a : Addr} {vs : List V} {os : List (Option Rw)} {b : Bool} : H a = some (.tup vs) → ItsV H vs os → os.length ≤ 20 → AfR os b → AfV K H (.ref a) b
def spAF (K : PySem.W.Frag) : Sp := fun vs H Q _ => ∃ (u : V) (b : Bool), vs = [u] ∧ AfV K H u b ∧ ∀ G, Same H G → Q (.bl b) G
/-- the list of rows, told the other way round -/
structure ToldA (H : Hp) (ts : List Addr) (rs : List Rw) : Prop where
  len : ts.length = rs.length
  at_ : ∀ (i : Nat) (a : Addr) (q : Rw), ts[i]? = some a → rs[i]? = some q → H a = some (.tup [.int (-q.2), .str q.1])
theorem ToldA.same {H G : Hp} {as : List Addr} {rs : List Rw} (h : ToldA H as rs) (s : Same H G) : ToldA G as rs := ⟨h.len, fun i a q h1 h2 => s _ _ (h.at_ i a q h1 h2)⟩
theorem ToldA.snoc {G : Hp} {ts : List Addr} {rs : List Rw} {a : Addr} {q : Rw} (h : ToldA G ts rs) (ha : G a = some (.tup [.int (-q.2), .str q.1])) : ToldA G (ts ++ [a]) (rs ++ [q]) := by
  refine ⟨by rw [List.length_append, List.length_append, h.len]; rfl, fun i b r h1 h2 => ?_⟩
  by_cases hi : i < ts.length
  · rw [List.getElem?_append_left hi] at h1
    rw [List.getElem?_append_left (by rw [← h.len]; exact hi)] at h2
    exact h.at_ i b r h1 h2
  · rw [List.getElem?_append_right (by omega)] at h1
    rw [List.getElem?_append_right (by rw [← h.len]; omega), ← h.len] at h2
    have h0 : i - ts.length = 0 := by
      have := (List.getElem?_eq_some_iff.mp h1).1
      simp only [List.length_cons, List.length_nil] at this
      omega
    rw [h0] at h1 h2
    obtain rfl := Option.some.inj h1
    obtain rfl := Option.some.inj h2
    exact ha
def zipD (ts : List Addr) (rs : List Rw) : List (V × PyData) := (ts.zip rs).map fun z => (.ref z.1, enc z.2)
theorem zipD_1 {ts : List Addr} {rs : List Rw} (h : ts.length = rs.length) : (zipD ts rs).map (·.1) = ts.map V.ref := by
  unfold zipD
  rw [List.map_map]
  show (ts.zip rs).map (fun z => V.ref z.1) = _
  rw [show (fun z : Addr × Rw => V.ref z.1) = V.ref ∘ Prod.fst from rfl, ← List.map_map, List.map_fst_zip (by omega)]
theorem zipD_2 {ts : List Addr} {rs : List Rw} (h : ts.length = rs.length) : (zipD ts rs).map (·.2) = rs.map enc := by
  unfold zipD
  rw [List.map_map, show ((fun x : V × PyData => x.2) ∘ fun z : Addr × Rw => (V.ref z.1, enc z.2)) = enc ∘ Prod.snd from rfl, ← List.map_map, List.map_snd_zip (by omega)]
theorem zipD_dp {K : PySem.W.Frag} {H : Hp} {ts : List Addr} {rs : List Rw} (h : ToldA H ts rs) : ∀ b ∈ zipD ts rs, Dp K H b.1 b.2 := by
  intro b hb
  obtain ⟨⟨t, q⟩, hz, rfl⟩ := List.mem_map.mp hb
  obtain ⟨i, hi, e⟩ := List.mem_iff_getElem.mp hz
  rw [List.length_zip] at hi
  rw [List.getElem_zip] at e
  obtain ⟨e1, e2⟩ := Prod.mk.inj e
  have := h.at_ i t q (by rw [List.getElem?_eq_getElem (by omega), e1]) (by rw [List.getElem?_eq_getElem (by omega), e2])
  exact .tup (.inl (.inl this)) (.cons (.int _) (.cons (.str _) .nil))
theorem dpAll_of {K : PySem.W.Frag} {H : Hp} : ∀ {l : List (V × PyData)}, (∀ b ∈ l, Dp K H b.1 b.2) → DpAll K H (l.map (·.1)) (l.map (·.2))
  | [], _ => .nil
  | b :: l, h => .cons (h b List.mem_cons_self) (dpAll_of fun c hc => h c (List.mem_cons_of_mem _ hc))
theorem enc_lay : ∀ (rs : List Rw), (∀ q ∈ rs, PyData.strOk q.1 = true) → PyData.canLayAll0 (rs.map enc) = true ∧ PyData.depthAll (rs.map enc) ≤ 1
  | [], _ => ⟨by simp [PyData.canLayAll0], by simp [PyData.depthAll]⟩
  | q :: rs, h => by
    obtain ⟨h1, h2⟩ := enc_lay rs fun r hr => h r (List.mem_cons_of_mem _ hr)
    have := h q List.mem_cons_self
    constructor
    · simp [PyData.canLayAll0, enc, PyData.canLay0, this, h1]
    · simp only [List.map_cons, PyData.depthAll, enc, PyData.depth]
      omega
theorem enc_shaped {rs : List Rw} (h : ∀ q ∈ rs, PyData.strOk q.1 = true) : SeqAt.shaped (.list (rs.map enc)) = true := by
  obtain ⟨h1, h2⟩ := enc_lay rs h
  unfold SeqAt.shaped
  rw [PyData.canLay0, h1, Bool.true_and]
  refine decide_eq_true ?_
  rw [PyData.depth]
  omega
theorem strOk_of {x : Str} (h : ∀ c ∈ x.cps.toList, c < 128) : PyData.strOk x = true := by
  show x.cps.all (fun c => decide (c < 0x110000)) = true
  rw [Array.all_eq_true']
  intro c hc
  have := h c (Array.mem_toList_iff.mpr hc)
  exact decide_eq_true (by omega)
theorem hu64 {A : Around} {k : Nat} (hr : Room k A) : A.units + 64 < cLine := by
  have := hr.un
  omega
theorem none_of {H G : Hp} {l : Addr} (s : Same H G) (h : G l = none) : H l = none := by
  cases e : H l with
  | none => rfl
  | some o =>
    have := s _ _ e
    rw [h] at this
    cases this
theorem enc_allAlike (rs : List Rw) : PySem.W.AllAlike (rs.map enc) := by
  intro d hd e he
  obtain ⟨p, _, rfl⟩ := List.mem_map.mp hd
  obtain ⟨q, _, rfl⟩ := List.mem_map.mp he
  exact Kd.enc_alike p q
theorem enc_sortable (rs : List Rw) : PySem.W.Sortable (rs.map enc) := .inl fun d hd => by
  obtain ⟨p, _, rfl⟩ := List.mem_map.mp hd
  exact ⟨_, _, rfl⟩
/-- sorted of what is told -/
theorem told_pre {K : PySem.W.Frag} {H : Hp} {l : Addr} {ts : List Addr} {rs : List Rw} (hl : H l = some (.lst (ts.map V.ref))) (h : ToldA H ts rs) (few : rs.length ≤ 1000) :
    SqL K H l ((zipD ts rs).map (·.1)) ∧ (∀ b ∈ zipD ts rs, Dp K H b.1 b.2) ∧ PySem.W.AllAlike ((zipD ts rs).map (·.2)) ∧ PySem.W.Sortable ((zipD ts rs).map (·.2)) ∧ (zipD ts rs).length ≤ 1000 ∧ ∀ b ∈ zipD ts rs, b.2.depth ≤ 20 := by
  have z2 := zipD_2 h.len
  refine ⟨.inl (.inl (by rw [zipD_1 h.len]; exact hl)), zipD_dp h, by rw [z2]; exact enc_allAlike rs, by rw [z2]; exact enc_sortable rs, ?_, fun b hb => ?_⟩
  · have := congrArg List.length z2
    rw [List.length_map, List.length_map] at this
    omega
  · have : b.2 ∈ rs.map enc := by rw [← z2]; exact List.mem_map_of_mem hb
    obtain ⟨q, _, e⟩ := List.mem_map.mp this
    rw [← e]
    simp [enc, PyData.depth, PyData.depthAll]
theorem told_post {K : PySem.W.Frag} {H : Hp} {ts : List Addr} {rs : List Rw} (h : ToldA H ts rs) : ∃ ss : List Rw, (rs.map enc).mergeSort leD = ss.map enc ∧ ss.Perm rs ∧ (ss.Pairwise fun p q => leR p q = true) ∧
    (∀ G, Same H G → DpAll K G (((zipD ts rs).mergeSort (PySem.W.dataLe false (·.2))).map (·.1)) (ss.map enc)) ∧
    (((zipD ts rs).mergeSort (PySem.W.dataLe false (·.2))).map (·.1)).length = ss.length ∧
    ∀ (i : Nat) (v : V) (q : Rw), (((zipD ts rs).mergeSort (PySem.W.dataLe false (·.2))).map (·.1))[i]? = some v → ss[i]? = some q → ∃ t, v = .ref t ∧ H t = some (.tup [.int (-q.2), .str q.1]) := by
  obtain ⟨ss, e1, e2, e3⟩ := Kd.rows_srt rs
  have z2 := zipD_2 h.len
  have em : ((zipD ts rs).mergeSort (PySem.W.dataLe false (·.2))).map (·.2) = ss.map enc := by
    rw [← e1, ← z2]
    exact PySem.W.sort_maps (fun b : V × PyData => b.2) fun a _ b _ => rfl
  refine ⟨ss, e1, e2, e3, fun G s1 => ?_, ?_, fun i v q hv hq => ?_⟩
  · have dp : ∀ b ∈ (zipD ts rs).mergeSort (PySem.W.dataLe false (·.2)), Dp K G b.1 b.2 := fun b hb => by
      have hb := (List.mergeSort_perm _ _).mem_iff.mp hb
      exact zipD_dp (h.same s1) b hb
    have := dpAll_of dp
    rw [em] at this
    exact this
  · have := congrArg List.length em
    rw [List.length_map, List.length_map] at this
    rw [List.length_map, this]
  · rw [List.getElem?_map] at hv
    have hm := congrArg (fun z : List PyData => z[i]?) em
    simp only [List.getElem?_map] at hm
    rw [hq] at hm
    cases eb : ((zipD ts rs).mergeSort (PySem.W.dataLe false (·.2)))[i]? with
    | none => rw [eb] at hv; cases hv
    | some b =>
      rw [eb] at hv hm
      obtain rfl := Option.some.inj hv
      have hm : b.2 = enc q := Option.some.inj hm
      have hb := (List.mergeSort_perm _ _).mem_iff.mp (List.mem_of_getElem? eb)
      obtain ⟨⟨t, r⟩, hz, rfl⟩ := List.mem_map.mp hb
      have hr : r = q := by
        have := Kd.enc_eqv r q
        rw [show enc r = enc q from hm] at this
        have h2 := Kd.enc_eqv q q
        rw [this] at h2
        simpa using h2
      subst hr
      obtain ⟨j, hj, e⟩ := List.mem_iff_getElem.mp hz
      rw [List.length_zip] at hj
      rw [List.getElem_zip] at e
      obtain ⟨a1, a2⟩ := Prod.mk.inj e
      exact ⟨t, rfl, h.at_ j t r (by rw [List.getElem?_eq_getElem (by omega), a1]) (by rw [List.getElem?_eq_getElem (by omega), a2])⟩
theorem AfR.inv {os : List (Option Rw)} {b : Bool} (h : AfR os b) {rs : List Rw} (e : os = rs.map some) :
    (b = true ∧ (rs.Pairwise fun p q => leR p q = true) ∧ (rs.map (·.1)).Nodup) ∨ (b = false ∧ ((∃ p q, rs = [p, q] ∧ leR p q = false) ∨ ∃ p q, rs = [p, q] ∧ p.1 = q.1)) := by
  have two : ∀ {p q : Rw}, [some p, some q] = rs.map some → rs = [p, q] := fun e => by
    match rs, e with
    | [x, y], e =>
      injection e with e1 e2
      injection e2 with e2 _
      rw [Option.some.inj e1, Option.some.inj e2]
  cases h with
  | bad h =>
    rw [e] at h
    obtain ⟨_, _, z⟩ := List.mem_map.mp h
    cases z
  | good h1 h2 =>
    rename_i ss
    have : ss = rs := (List.map_inj_right (fun a b h => Option.some.inj h)).mp e
    rw [← this]
    exact .inl ⟨rfl, h1, h2⟩
  | un h1 => exact .inr ⟨rfl, .inl ⟨_, _, two e, h1⟩⟩
  | dbl h1 h2 => exact .inr ⟨rfl, .inr ⟨_, _, two e, h2⟩⟩
abbrev tyT : HO := .tup [.ty "list", .ty "tuple"]
section
variable {P : Program} {w : World} {K : PySem.W.Frag} {mg : Str → Option Value} {base : Heap} {C : Addr}
theorem ok_AF (D : DefAt K mg "are_first_rows" sAF) (T : Txt K mg) (Tx : TxtX mg) (TA : TxtA mg) (CT : Cl P w K mg base 1 "is_text" (spF K fText)) (CI : Cl P w K mg base 1 "is_integer" (spF K fInt)) : Cl P w K mg base 2 "are_first_rows" (spAF K) := by
  refine cl_of D scAF (fun vs H Q E h => ?_) (fun _ _ _ _ _ _ us hl => match us, hl with | [_], _ => rfl) (fun f cdv A outer s H vs Q E hr h => ?_)
  · obtain ⟨u, b, rfl, _⟩ := h
    rfl
  · obtain ⟨u, b, rfl, hv, k⟩ := h
    refine ⟨_, C8.pss_cut (ps_if (pt_not (pt_val (pe_callB call_isiT (by rfl) (by exact Tx.isi) (by decide +kernel) (pa_cons (pv 0) (pa_cons (pe_tup (pa_cons (pe_bltn rfl (by exact T.list) (by decide +kernel) (v := .ty "list") rfl) (pa_cons (pe_bltn rfl (by exact T.tuple) (by decide +kernel) (v := .ty "tuple") rfl) pa_nil))) pa_nil)))))
(pss_one (ps_ret pe_bl))
pss_nil)
(pss_cons (ps_set (i := 1) scAF.nd rfl (Or.inl rfl) (pe_lst pa_nil))
(C8.pss_cut (ps_for PassesOwn.never rfl (pi_tup (pv 0)) (pg_name (i := 2) scAF.nd rfl (Or.inl rfl))
(C8.pss_cut (ps_if (PW.pt (pw_or (pt_not (pt_val (pe_callB call_isiT (by rfl) (by exact Tx.isi) (by decide +kernel) (pa_cons (pv 2) (pa_cons (pe_tup (pa_cons (pe_bltn rfl (by exact T.list) (by decide +kernel) (v := .ty "list") rfl) (pa_cons (pe_bltn rfl (by exact T.tuple) (by decide +kernel) (v := .ty "tuple") rfl) pa_nil))) pa_nil))))) (pw_or1 (pt_cmpR op_ne (pe_callB call_len_seq (by rfl) (by exact T.len) PySem.boot_len (pa_cons (pv 2) pa_nil)) pe_int (nomark _)))))
(pss_one (ps_ret pe_bl))
pss_nil)
(pss_cons (ps_asg (pv 2) (pg_tup (by rfl) (pgs_cons (pg_name (i := 3) scAF.nd rfl (Or.inl rfl)) (pgs_cons (pg_name (i := 4) scAF.nd rfl (Or.inl rfl)) pgs_nil))))
(C8.pss_cut (ps_if (PW.pt (pw_or (pt_not (pt_val (pe_cl CT hr (by decide) rfl (pa_cons (pv 3) pa_nil)))) (pw_or (pt_not (pt_val (pe_cl CI hr (by decide) rfl (pa_cons (pv 4) pa_nil)))) (pw_or1 (pt_cmpR op_lt (pv 4) pe_int (nomark _))))))
(pss_one (ps_ret pe_bl))
pss_nil)
(pss_one (ps_expr (pe_bm PySem.F.plainAttrs_list PySem.F.slot_list_append PySem.F.type_list_append mt_append (pv 1) (pa_cons (pe_tup (pa_cons (pe_un un_neg (pv 4)) (pa_cons (pv 3) pa_nil))) pa_nil))))))))
(pss_cons (ps_if (pt_cmpR (op_neD (hu64 hr)) (pv 1) (pe_callB (SDt.cr_sortD (hu64 hr)) (by rfl) (by exact TA.sorted) (by decide +kernel) (pa_cons (pv 1) pa_nil)) (nomark _))
(pss_one (ps_ret pe_bl))
pss_nil)
(pss_one (ps_ret (pe_cmpR op_eq (pe_callB call_lenX (by rfl) (by exact T.len) PySem.boot_len (pa_cons (pe_callTy (TX.cr_setX rfl) (by rfl) (by exact Tx.set) (by decide +kernel) (pa_cons (pe_lc (own := [("_", 5), ("text", 3)]) (g := gTup K 2 (gCons (gName 5) (gCons (gName 3) gNil))) (tt := tYes) (by rfl) scAF.nd (pi_list (pv 1)) (blkOk_by (own := [("_", 5), ("text", 3)]) (N := NAF) (sc := defScope sAF) (by decide +kernel)) (fun _ _ _ _ _ => (pg_tup (by rfl) (pgs_cons (pg_name (i := 5) scAF.nd rfl (Or.inl rfl)) (pgs_cons (pg_name (i := 3) scAF.nd rfl (Or.inl rfl)) pgs_nil)))) (fun _ _ _ _ _ => pts_nil) (fun _ _ _ _ _ => (pv 3))) pa_nil)) pa_nil)) (pe_callB call_len_seq (by rfl) (by exact T.len) PySem.boot_len (pa_cons (pv 1) pa_nil)) (nomark _))))))), ?_⟩
    refine ⟨fun σ G => σ = L2.start NAF [u] ∧ Same H G ∧ ∃ a vs os, u = .ref a ∧ H a = some (.tup vs) ∧ ItsV H vs os ∧ os.length ≤ 20 ∧ AfR os b, ?_, ?_⟩
    · cases hv with
      | no hs =>
        refine ⟨_, rfl, (by show 2 ≤ sizeLine; rw [sizeLine_eq]; decide), fun tp htp => ?_⟩
        obtain ⟨tt, z1, z2⟩ := (Sq.same hs (Same.new (o := tyT) htp)).ty
        refine ⟨_, tp, _, _, _, _, rfl, upd_same, .cons (.ty "list") (.cons (.ty "tuple") .nil), z1, z2, _, rfl, ?_⟩
        exact (if_pos rfl).mpr (k _ (Same.new htp))
      | rows ha hi hl hb =>
        refine ⟨_, rfl, (by show 2 ≤ sizeLine; rw [sizeLine_eq]; decide), fun tp htp => ?_⟩
        obtain ⟨tt, z1, z2⟩ := (Sq.same (Sq.tup (K := K) ha) (Same.new (o := tyT) htp)).ty
        refine ⟨_, tp, _, _, _, _, rfl, upd_same, .cons (.ty "list") (.cons (.ty "tuple") .nil), z1, z2, _, rfl, ?_⟩
        exact (if_neg (by decide)).mpr ⟨rfl, Same.new htp, _, _, _, rfl, ha, hi, hl, hb⟩
    rintro σ G1 ⟨rfl, s1, a, vs, os, rfl, ha, hi, hlen, hb⟩
    refine ⟨(by show 0 ≤ sizeLine; exact Nat.zero_le _), fun l hl0 => ?_⟩
    have hlH : H l = none := none_of s1 hl0
    refine ⟨fun σ G => ∃ ts rs x2 x3 x4, σ = [some (.ref a), some (.ref l), x2, x3, x4, none] ∧ Same H G ∧ G l = some (.lst (ts.map V.ref)) ∧ ToldA G ts rs ∧ os = rs.map some ∧ ∀ q ∈ rs, RwOk q, ?_, ?_⟩
    · refine ⟨_, rfl, a, rfl, ⟨_, .inl (.inl ((Same.put s1 hlH) _ _ ha))⟩, for_tup (K := K) (a := a) (xs := vs) (fun i σ G => ∃ ts rs x2 x3 x4, σ = [some (.ref a), some (.ref l), x2, x3, x4, none] ∧ Same H G ∧ G l = some (.lst (ts.map V.ref)) ∧ ToldA G ts rs ∧ os.take i = rs.map some ∧ ∀ q ∈ rs, RwOk q)
        ⟨[], [], none, none, none, rfl, Same.put s1 hlH, upd_same, ⟨rfl, fun i a q h => by cases h⟩, rfl, fun q h => by cases h⟩ (fun i σ G _ h => ?_) ?_ ?_⟩
      · obtain ⟨_, _, _, _, _, _, s, _⟩ := h
        exact .inl (.inl (s _ _ ha))
      · rintro i v σ G hv ⟨ts, rs, x2, x3, x4, rfl, sG, hG, hT, ht, hok⟩
        have hi' : i < os.length := by rw [← hi.1]; exact (List.getElem?_eq_some_iff.mp hv).1
        have ho : os[i]? = some os[i] := List.getElem?_eq_getElem hi'
        have hit := (hi.2 i v _ hv ho).same sG
        have hbad : os[i] = none → ∀ G', Same H G' → Q (.bl false) G' := fun e G' s' => by
          have : b = false := by
            cases hb with
            | bad _ => rfl
            | good _ _ =>
              have := List.getElem_mem hi'
              rw [e] at this
              obtain ⟨_, _, z⟩ := List.mem_map.mp this
              cases z
            | un _ => rfl
            | dbl _ _ => rfl
          rw [← this]
          exact k G' s'
        have sz2 : 2 ≤ sizeLine := by rw [sizeLine_eq]; decide
        refine ⟨fun σ G' => σ = [some (.ref a), some (.ref l), some v, x3, x4, none] ∧ Same G G' ∧ ∃ va x y, v = .ref va ∧ G va = some (.tup [x, y]), ?_, ?_⟩
        · have sq : ∃ bb, Sq K G v bb ∧ (bb = false → os[i] = none) ∧ (bb = true → ∃ va xs, v = .ref va ∧ G va = some (.tup xs) ∧ (xs.length = 2 ∨ (xs.length = 1 ∧ os[i] = none))) := by
            revert hit
            generalize os[i] = oi
            intro hit
            cases hit with
            | ok h1 h2 => exact ⟨true, .tup h1, (fun z => by cases z), fun _ => ⟨_, _, rfl, h1, .inl rfl⟩⟩
            | few h1 _ _ _ _ _ => exact ⟨true, .tup h1, (fun z => by cases z), fun _ => ⟨_, _, rfl, h1, .inl rfl⟩⟩
            | int h1 _ => exact ⟨true, .tup h1, (fun z => by cases z), fun _ => ⟨_, _, rfl, h1, .inl rfl⟩⟩
            | bl h1 _ _ _ => exact ⟨true, .tup h1, (fun z => by cases z), fun _ => ⟨_, _, rfl, h1, .inl rfl⟩⟩
            | one h1 => exact ⟨true, .tup h1, (fun z => by cases z), fun _ => ⟨_, _, rfl, h1, .inr ⟨rfl, rfl⟩⟩⟩
            | txt x => exact ⟨false, .str x, fun _ => rfl, fun z => by cases z⟩
          obtain ⟨bb, hsq, hf, ht2⟩ := sq
          refine ⟨_, rfl, sz2, fun tp htp => ?_⟩
          obtain ⟨tt, z1, z2⟩ := (Sq.same hsq (Same.new (o := tyT) htp)).ty
          refine ⟨_, tp, _, _, _, _, rfl, upd_same, .cons (.ty "list") (.cons (.ty "tuple") .nil), z1, z2, _, rfl, ?_⟩
          have s' := Same.new (o := tyT) htp
          generalize upd G tp tyT = G' at s'
          cases bb with
          | false =>
            refine (if_pos rfl).mpr ((if_pos rfl).mpr ?_)
            exact hbad (hf rfl) G' (sG.trans s')
          | true =>
            obtain ⟨va, xs, rfl, hva, hxs⟩ := ht2 rfl
            refine (if_neg (by decide)).mpr ⟨_, rfl, va, xs, rfl, .inr (.inl (.inl (s' _ _ hva))), rfl, _, rfl, ?_⟩
            rcases hxs with h2 | ⟨h1, hn⟩
            · refine (if_neg (by rw [h2]; decide)).mpr ?_
              match xs, h2 with
              | [x, y], _ => exact ⟨rfl, s', va, x, y, rfl, hva⟩
            · refine (if_pos (by rw [h1]; decide)).mpr ?_
              exact hbad hn G' (sG.trans s')
        rintro σ G3 ⟨rfl, s3, va, x, y, rfl, hva⟩
        refine ⟨_, rfl, va, _, rfl, .inl (.inl (s3 _ _ hva)), rfl, _, _, rfl, _, _, rfl, rfl, ?_⟩
        have hva3 := s3 _ _ hva
        refine ⟨fun σ G' => σ = [some (.ref a), some (.ref l), some (.ref va), some x, some y, none] ∧ Same G G' ∧ ∃ q, os[i] = some q ∧ x = .str q.1 ∧ y = .int q.2 ∧ RwOk q, ?_, ?_⟩
        · revert hit
          revert hbad
          generalize os[i] = oi
          intro hbad hit
          have inj : ∀ {va' : Addr} {xs : List V}, V.ref va = V.ref va' → G va' = some (.tup xs) → xs = [x, y] := fun e e2 => by
            obtain rfl := V.ref.inj e
            rw [hva] at e2
            injection e2 with e2
            injection e2 with e2
            exact e2.symm
          cases hit with
          | ok h1 h2 =>
            rename_i q
            have e := inj rfl h1
            injection e with e3 e
            injection e with e4 e
            subst e3 e4
            obtain ⟨k1, k2, k3, k4, k5⟩ := h2
            refine ⟨_, rfl, _, _, _, rfl, .str _ k2 k3, fun G4 s4 => ⟨_, rfl, ?_⟩⟩
            refine (if_neg (by rw [k1]; decide)).mpr ?_
            refine ⟨_, rfl, _, _, _, rfl, .int _ (by omega), fun G5 s5 => ⟨_, rfl, ?_⟩⟩
            refine (if_neg (by show ¬(!true) = true; decide)).mpr ?_
            refine ⟨_, rfl, _, _, rfl, rfl, _, rfl, ?_⟩
            refine (if_neg (by rw [decide_eq_true_eq]; omega)).mpr ?_
            exact ⟨rfl, s3.trans (s4.trans s5), q, rfl, rfl, rfl, k1, k2, k3, k4, k5⟩
          | few h1 k1 k2 k3 k4 k5 =>
            rename_i q
            have e := inj rfl h1
            injection e with e3 e
            injection e with e4 e
            subst e3 e4
            refine ⟨_, rfl, _, _, _, rfl, .str _ k2 k3, fun G4 s4 => ⟨_, rfl, ?_⟩⟩
            refine (if_neg (by rw [k1]; decide)).mpr ?_
            refine ⟨_, rfl, _, _, _, rfl, .int _ (by omega), fun G5 s5 => ⟨_, rfl, ?_⟩⟩
            refine (if_neg (by show ¬(!true) = true; decide)).mpr ?_
            refine ⟨_, rfl, _, _, rfl, rfl, _, rfl, ?_⟩
            refine (if_pos (by rw [decide_eq_true_eq]; omega)).mpr ?_
            exact hbad rfl _ (sG.trans (s3.trans (s4.trans s5)))
          | int h1 k1 =>
            have e := inj rfl h1
            injection e with e3 e
            injection e with e4 e
            subst e3 e4
            refine ⟨_, rfl, _, _, _, rfl, .int _ k1, fun G4 s4 => ⟨_, rfl, ?_⟩⟩
            refine (if_pos rfl).mpr ((if_pos rfl).mpr ?_)
            exact hbad rfl _ (sG.trans (s3.trans s4))
          | bl h1 k1 k2 k3 =>
            have e := inj rfl h1
            injection e with e3 e
            injection e with e4 e
            subst e3 e4
            refine ⟨_, rfl, _, _, _, rfl, .str _ k2 k3, fun G4 s4 => ⟨_, rfl, ?_⟩⟩
            refine (if_neg (by rw [k1]; decide)).mpr ?_
            refine ⟨_, rfl, _, _, _, rfl, .bl _, fun G5 s5 => ⟨_, rfl, ?_⟩⟩
            refine (if_pos rfl).mpr ((if_pos rfl).mpr ?_)
            exact hbad rfl _ (sG.trans (s3.trans (s4.trans s5)))
          | one h1 =>
            have e := inj rfl h1
            injection e with e3 e
            cases e
        rintro σ G4 ⟨rfl, s4, q, hoi, rfl, rfl, hq⟩
        refine ⟨_, rfl, .inl ⟨rfl, _, .inl (.inl (s4 _ _ hG))⟩, ⟨_, rfl, _, rfl, ?_⟩⟩
        refine ⟨_, rfl, sz2, fun t ht0 => ?_⟩
        have s5 := Same.new (o := .tup [.int (-q.2), .str q.1]) ht0
        have nlt : l ≠ t := ne_of_none (s4 _ _ hG) ht0
        refine ⟨l, _, _, rfl, rfl, s5 _ _ (s4 _ _ hG), ?_, ?_⟩
        · rw [List.length_map, hT.len]
          have := congrArg List.length ht
          rw [List.length_map, List.length_take] at this
          rw [sizeLine_eq]
          omega
        refine ⟨ts ++ [t], rs ++ [q], some (.ref va), some (.str q.1), some (.int q.2), rfl, fun b o e => ?_, ?_, ?_, ?_, fun r hr => ?_⟩
        · have nbl : b ≠ l := ne_of_none e hlH
          rw [upd_ne nbl]
          exact s5 _ _ (s4 _ _ (sG _ _ e))
        · rw [upd_same, List.map_append]
          rfl
        · have st : ∀ b o, G b = some o → b ≠ l → upd (upd G4 t (.tup [.int (-q.2), .str q.1])) l (.lst (ts.map V.ref ++ [.ref t])) b = some o := fun b o e n => by
            rw [upd_ne n]
            exact s5 _ _ (s4 _ _ e)
          refine ToldA.snoc ⟨hT.len, fun j b r h1 h2 => st _ _ (hT.at_ j b r h1 h2) (ne_of (hT.at_ j b r h1 h2) hG (by intro z; cases z))⟩ ?_
          rw [upd_ne nlt.symm, upd_same]
        · rw [List.take_add_one, ht, ho, hoi, List.map_append]
          rfl
        · rcases List.mem_append.mp hr with hr | hr
          · exact hok r hr
          · rw [List.mem_singleton.mp hr]
            exact hq
      · rintro σ G ⟨ts, rs, x2, x3, x4, rfl, sG, hG, hT, ht, hok⟩
        refine ⟨ts, rs, x2, x3, x4, rfl, sG, hG, hT, ?_, hok⟩
        rw [← ht, List.take_of_length_le (by rw [hi.1]; exact Nat.le_refl _)]
    rintro σ G ⟨ts, rs, x2, x3, x4, rfl, sG, hG, hT, rfl, hok⟩
    rw [List.length_map] at hlen
    refine ⟨_, rfl, _, rfl, ?_⟩
    obtain ⟨y1, y2, y3, y4, y5, y6⟩ := told_pre (K := K) hG hT (by omega)
    obtain ⟨ss, e1, e2, e3, hdp, _, _⟩ := told_post (K := K) hT
    refine ⟨l, zipD ts rs, rfl, y1, y2, y3, y4, y5, y6, fun p hp => ?_⟩
    have s2 := Same.new (o := .lst (((zipD ts rs).mergeSort (PySem.W.dataLe false (·.2))).map (·.1))) hp
    have hrs : ∀ q ∈ rs, PyData.strOk q.1 = true := fun q hq => strOk_of (hok q hq).2.2.1
    have dtold : Dp K (upd G p (.lst (((zipD ts rs).mergeSort (PySem.W.dataLe false (·.2))).map (·.1)))) (.ref l) (.list (rs.map enc)) := by
      refine .lst (.inl (.inl (s2 _ _ hG))) ?_
      have := dpAll_of (zipD_dp (K := K) (hT.same s2))
      rw [zipD_1 hT.len, zipD_2 hT.len] at this
      exact this
    refine ⟨_, _, dtold, .lst (.inl (.inl upd_same)) (hdp _ s2), enc_shaped hrs, enc_shaped fun q hq => hrs q (e2.mem_iff.mp hq), _, rfl, ?_⟩
    rw [Kd.list_eqv]
    have s3 := sG.trans s2
    have hG3 := s2 _ _ hG
    have hT3 := hT.same s2
    generalize upd G p (.lst (((zipD ts rs).mergeSort (PySem.W.dataLe false (·.2))).map (·.1))) = G3 at s3 hG3 hT3
    refine ite2 (fun hne => ?_) (fun heq => ?_)
    · have hne : rs ≠ ss := fun z => by rw [decide_eq_true z] at hne; exact absurd hne (by decide)
      have : b = false := by
        rcases hb.inv rfl with ⟨_, hp, _⟩ | ⟨e, _⟩
        · refine absurd ?_ hne
          have := Kd.srt_self hp
          rw [e1] at this
          have h2 := Kd.list_eqv rs ss
          rw [this, Kd.list_eqv] at h2
          simpa using h2.symm
        · exact e
      rw [this] at k
      exact k _ s3
    have heq : rs = ss := by
      by_cases z : rs = ss
      · exact z
      · rw [decide_eq_false z] at heq
        exact absurd rfl heq
    subst heq
    refine ⟨_, rfl, l, rfl, ⟨_, .inl (.inl hG3)⟩, fun D hD => ?_⟩
    refine Lk.go_list (K := K) (a := l) (xs := ts.map V.ref) (fun i G => Same G3 G ∧ G D = some (.lst (((rs.take i).map (·.1)).map V.str))) ⟨Same.new hD, upd_same⟩ (fun i G _ h => .inl (.inl (h.1 _ _ hG3))) ?_ ?_
    · rintro i v G5 hv ⟨s5, hD5⟩
      rw [List.getElem?_map] at hv
      cases et : ts[i]? with
      | none => rw [et] at hv; cases hv
      | some t =>
      rw [et] at hv
      obtain rfl := Option.some.inj hv
      have hi5 : i < rs.length := by rw [← hT3.len]; exact (List.getElem?_eq_some_iff.mp et).1
      have eq5 : rs[i]? = some rs[i] := List.getElem?_eq_getElem hi5
      have ht5 := s5 _ _ (hT3.at_ i t _ et eq5)
      refine ⟨t, _, rfl, .inl (.inl ht5), rfl, _, _, rfl, _, _, rfl, rfl, rfl, ?_⟩
      simp only [tYes, if_true]
      refine ⟨_, rfl, _, hD5, ?_, Same.put s5 hD, ?_⟩
      · rw [List.length_map, List.length_map, List.length_take, sizeLine_eq]
        omega
      · rw [upd_same, List.take_add_one, eq5, List.map_append, List.map_append]
        rfl
    rintro G5 ⟨s5, hD5⟩
    rw [List.length_map, hT3.len, List.take_length] at hD5
    refine ⟨D, rs.map (·.1), rfl, .inl (.inl hD5), by rw [List.length_map]; omega, fun a2 ha2 => ⟨a2, _, rfl, upd_same, by rw [List.length_map]; omega, fun n n1 n2 => ?_⟩⟩
    have s6 := s3.trans (s5.trans (Same.new (o := TX.SetX w a2 (rs.map (·.1))) ha2))
    refine ⟨_, rfl, l, _, rfl, .inl (.inl (.inl ((s5.trans (Same.new ha2)) _ _ hG3))), rfl, ?_⟩
    have hln : (ts.map V.ref).length = rs.length := by rw [List.length_map, hT3.len]
    have : b = decide (V.int (n : Int) = V.int (((ts.map V.ref).length : Nat) : Int)) := by
      rw [hln]
      rcases hb.inv rfl with ⟨e, hp, hn⟩ | ⟨e, h⟩
      · rw [e, n1 hn, List.length_map]
        exact (decide_eq_true rfl).symm
      · rcases h with ⟨p, q, rfl, hl⟩ | ⟨p, q, rfl, hl⟩
        · have := (List.pairwise_cons.mp e3).1 q List.mem_cons_self
          rw [hl] at this
          cases this
        · rw [e, n2 p.1 (by rw [List.map_cons, List.map_cons, ← hl]; rfl)]
          exact (decide_eq_false (by intro z; injection z with z; simp at z)).symm
    rw [this] at k
    exact k _ s6
end
end Wq
set_option Elab.async false
set_option linter.all false
set_option maxRecDepth 100000
set_option maxHeartbeats 4000000
namespace Wq
open PySem PySem.Spec PyProof.Rows L2
open Kd (Pt Rw told most lm sumO least mostO lmost below ahead sureL openL enc leR leD)
/-! sum_or_none, is_below, ahead_of -/
abbrev sSu : Stmt := top 12
theorem scSu : FnScope ["numbers"] ["numbers"] (defScope sSu) := ⟨rfl, rfl, rfl, by decide +kernel, rfl, by decide +kernel, by decide +kernel⟩
abbrev sBe : Stmt := top 13
theorem scBe : FnScope ["number", "bound"] ["number", "bound"] (defScope sBe) := ⟨rfl, rfl, rfl, by decide +kernel, rfl, by decide +kernel, by decide +kernel⟩
abbrev sAh : Stmt := top 14
abbrev NAh : List Str := ["text", "many", "bound", "one"]
theorem scAh : FnScope NAh ["text", "many", "bound"] (defScope sAh) := ⟨rfl, rfl, rfl, by decide +kernel, rfl, by decide +kernel, by decide +kernel⟩
def spSu : Sp := fun vs H Q _ => ∃ (l : Addr) (os : List (Option Int)), vs = [.ref l] ∧ H l = some (.lst (os.map oV)) ∧ Q (oV (sumO os)) H
def spBe : Sp := fun vs H Q _ => ∃ (n b : Option Int), vs = [oV n, oV b] ∧ Q (.bl (below n b)) H
def dO (ys : List Str) (f : Str → V) : List (Key × V) := ys.map fun y => (Sum.inr y, f y)
def spAh : Sp := fun vs H Q _ => ∃ (x : Str) (d : Addr) (ys : List Str) (f : Str → Option Int) (b : Option Int), vs = [.str x, .ref d, oV b] ∧ H d = some (.dK (dO ys fun y => oV (f y))) ∧ ys.length ≤ 1000 ∧ ∀ G, Same H G → Q (.int (ahead ys x f b)) G
theorem valV_dO {ys : List Str} {f : Str → V} {y : Str} (h : y ∈ ys) : valV (dO ys f) (Sum.inr y) = some (f y) := by
  unfold valV dO
  induction ys with
  | nil => cases h
  | cons z ys ih =>
    rw [List.map_cons, List.find?_cons]
    by_cases e : z = y
    · rw [decide_eq_true (congrArg Sum.inr e), e]
      rfl
    · rw [decide_eq_false (fun z' => e (Sum.inr.inj z'))]
      exact ih ((List.mem_cons.mp h).resolve_left fun z' => e z'.symm)
theorem oV_flat (o : Option Int) : flatV (oV o) = true := by cases o <;> rfl
theorem inV_oV : ∀ os : List (Option Int), inV .non (os.map oV) = decide (none ∈ os)
  | [] => by simp [inV]
  | o :: os => by
    have := inV_oV os
    unfold inV at *
    rw [List.map_cons, List.any_cons, this]
    cases o with
    | none => simp [eqV, oV]
    | some m => simp [eqV, oV]
theorem oV_ints : ∀ os : List (Option Int), none ∉ os → os.map oV = (os.map fun o => o.getD 0).map V.int
  | [], _ => rfl
  | none :: os, h => absurd List.mem_cons_self h
  | some m :: os, h => by
    rw [List.map_cons, List.map_cons, List.map_cons, oV_ints os fun z => h (List.mem_cons_of_mem _ z)]
    rfl
section
variable {P : Program} {w : World} {K : PySem.W.Frag} {mg : Str → Option Value} {base : Heap} {C : Addr}
theorem ok_Su (D : DefAt K mg "sum_or_none" sSu) (TA : TxtA mg) : Cl P w K mg base 1 "sum_or_none" spSu := by
  refine cl_of D scSu (fun vs H Q E h => ?_) (fun _ _ _ _ _ _ us hl => match us, hl with | [_], _ => rfl) (fun f cdv A outer s H vs Q E hr h => ?_)
  · obtain ⟨l, os, rfl, _⟩ := h
    rfl
  · obtain ⟨l, os, rfl, hl, k⟩ := h
    refine ⟨_, pss_one (ps_ret (pe_ifExp (pt_cmpR op_in_seq pe_non (pv 0) rfl) pe_non (pe_callB (cr_sum rfl) (by rfl) (by exact TA.sum) (by decide +kernel) (pa_cons (pv 0) pa_nil)))), ?_⟩
    refine ⟨_, rfl, l, _, rfl, .inl (.inl (.inl hl)), rfl, ?_, _, rfl, ?_⟩
    · rw [List.all_eq_true]
      intro v hv
      obtain ⟨o, _, rfl⟩ := List.mem_map.mp hv
      exact oV_flat o
    simp only [Bool.false_eq_true, if_false]
    rw [inV_oV]
    unfold sumO at k
    refine ite2 (fun h => ?_) (fun h => ?_)
    · rw [if_pos (of_decide_eq_true h)] at k
      exact k
    · have h : none ∉ os := fun z => h (decide_eq_true z)
      rw [if_neg h] at k
      refine ⟨_, rfl, l, _, rfl, .inl (.inl ?_), k⟩
      rw [hl, oV_ints os h]
theorem ok_Be (D : DefAt K mg "is_below" sBe) : Cl P w K mg base 1 "is_below" spBe := by
  refine cl_of D scBe (fun vs H Q E h => ?_) (fun _ _ _ _ _ _ us hl => match us, hl with | [_, _], _ => rfl) (fun f cdv A outer s H vs Q E hr h => ?_)
  · obtain ⟨n, b, rfl, _⟩ := h
    rfl
  · obtain ⟨n, b, rfl, k⟩ := h
    refine ⟨_, pss_one (ps_ret (pe_or (pe_cmpR op_isN (pv 1) pe_non (nomark _)) (pe_one (pe_and (pe_cmpR op_notN (pv 0) pe_non (nomark _)) (pe_one (pe_cmpR op_lt (pv 0) (pv 1) (nomark _))))))), ?_⟩
    cases b with
    | none => exact ⟨_, rfl, rfl, _, rfl, (if_pos rfl).mpr k⟩
    | some b =>
      refine ⟨_, rfl, rfl, _, rfl, (if_neg (by simp [oV])).mpr ?_⟩
      cases n with
      | none => exact ⟨_, rfl, rfl, _, rfl, (if_neg (by simp [oV])).mpr k⟩
      | some n =>
        refine ⟨_, rfl, rfl, _, rfl, (if_pos (by simp [oV])).mpr ?_⟩
        exact ⟨_, rfl, _, rfl, _, _, rfl, rfl, k⟩
theorem ok_Ah (D : DefAt K mg "ahead_of" sAh) (T : Txt K mg) (CB : Cl P w K mg base 1 "is_below" spBe) : Cl P w K mg base 2 "ahead_of" spAh := by
  refine cl_of D scAh (fun vs H Q E h => ?_) (fun _ _ _ _ _ _ us hl => match us, hl with | [_, _, _], _ => rfl) (fun f cdv A outer s H vs Q E hr h => ?_)
  · obtain ⟨x, d, ys, f, b, rfl, _⟩ := h
    rfl
  · obtain ⟨x, d, ys, f, b, rfl, hd, few, k⟩ := h
    have hu := hu_of hr
    refine ⟨_, pss_one (ps_ret (pe_callB call_len_seq (by rfl) (by exact T.len) PySem.boot_len (pa_cons (pe_lock (pe_lc (own := [("one", 3)]) (g := gName 3) (by rfl) scAh.nd (pi_keys (pv 1)) (blkOk_by (own := [("one", 3)]) (N := NAh) (sc := defScope sAh) (by decide +kernel)) (fun _ _ _ _ _ => (pg_name (i := 3) scAh.nd rfl (Or.inl rfl))) (fun _ _ _ _ _ => (pts_one (PW.pt (pw_and (pt_cmpR op_ne (pv 3) (pv 0) (nomark _)) (pw_and1 (pt_not (pt_val (pe_cl CB hr (by decide) rfl (pa_cons (pe_dget hu (pv 1) (pv 3) (fun _ _ => rfl)) (pa_cons (pv 2) pa_nil)))))))))) (fun _ _ _ _ _ => (pv 3)))) pa_nil))), ?_⟩
    refine ⟨d, _, hd, trivial, fun od => ?_⟩
    have hf : upd H d (.frz od (.dK (dO ys fun y => oV (f y)))) d = some (.frz od (.dK (dO ys fun y => oV (f y)))) := upd_same
    refine ⟨_, rfl, d, od, rfl, .inl ⟨_, hf, fun Dd hD => ?_⟩⟩
    generalize hF : upd H d (.frz od (.dK (dO ys fun y => oV (f y)))) = F at hf hD
    refine Lk.go_keys (d := d) (o := od) (kvs := dO ys fun y => oV (f y)) (fun i G => Same F G ∧ G Dd = some (.lst (((ys.take i).filter fun o => decide (o ≠ x) && !below (f o) b).map V.str))) ⟨Same.new hD, upd_same⟩ (fun i G _ h => h.1 _ _ hf) ?_ ?_
    · rintro i ky v G hv ⟨sG, hG⟩
      unfold dO at hv
      rw [List.getElem?_map] at hv
      cases ey : ys[i]? with
      | none => rw [ey] at hv; cases hv
      | some y =>
      rw [ey] at hv
      obtain ⟨e1, e2⟩ := Prod.mk.inj (Option.some.inj hv)
      subst e1 e2
      have hi : i < ys.length := (List.getElem?_eq_some_iff.mp ey).1
      have ht : (ys.take (i + 1)).filter (fun o => decide (o ≠ x) && !below (f o) b) = (ys.take i).filter (fun o => decide (o ≠ x) && !below (f o) b) ++ if (decide (y ≠ x) && !below (f y) b) = true then [y] else [] := by
        rw [List.take_add_one, ey, List.filter_append]
        congr 1
        simp only [Option.toList, List.filter_cons, List.filter_nil]
      refine ⟨rfl, ?_⟩
      rw [ht]
      refine ⟨_, rfl, _, rfl, rfl, _, rfl, ?_⟩
      have hdg : DGet G d (V.str y) (some (oV (f y))) := .inl ⟨_, Sum.inr y, .inr ⟨od, sG _ _ hf⟩, rfl, (valV_dO (f := fun y => oV (f y)) (List.mem_of_getElem? ey)).symm⟩
      have hne' : ∀ bb, decide (V.str y = V.str x) = bb → decide (y ≠ x) = !bb := fun bb e => by
        rw [← e]
        by_cases z : y = x
        · simp [z]
        · simp [z]
      refine ite2 (fun hne => ?_) (fun hne => ?_)
      · have hne : (!decide (V.str y = V.str x)) = true := hne
        have e1 : decide (y ≠ x) = true := by rw [hne' _ rfl]; exact hne
        refine ⟨_, rfl, _, rfl, d, _, rfl, hdg, _, rfl, f y, b, rfl, _, rfl, ?_⟩
        rw [e1, Bool.true_and]
        cases hb : below (f y) b with
        | true =>
          refine (if_neg (by decide)).mpr ⟨sG, ?_⟩
          rw [show (!true) = false from rfl, if_neg (by decide), List.append_nil]
          exact hG
        | false =>
          refine (if_pos rfl).mpr ⟨_, rfl, _, hG, ?_, Same.put sG hD, ?_⟩
          · rw [List.length_map, sizeLine_eq]
            have := List.length_filter_le (fun o => decide (o ≠ x) && !below (f o) b) (ys.take i)
            rw [List.length_take] at this
            omega
          · rw [upd_same, show (!false) = true from rfl, if_pos rfl, List.map_append]
            rfl
      · have hne : ¬(!decide (V.str y = V.str x)) = true := hne
        have e1 : decide (y ≠ x) = false := by rw [hne' _ rfl]; exact eq_false_of_ne_true hne
        rw [e1, Bool.false_and]
        refine (if_neg (by decide)).mpr ⟨sG, ?_⟩
        rw [if_neg (by decide), List.append_nil]
        exact hG
    · rintro G ⟨sG, hG⟩
      have hln : (dO ys fun y => oV (f y)).length = ys.length := List.length_map _
      rw [hln, List.take_length] at hG
      have ndD : Dd ≠ d := (ne_of_none hf hD).symm
      refine ⟨sG _ _ hf, Dd, _, rfl, .inl (.inl (.inl (by rw [upd_ne ndD]; exact hG))), ?_⟩
      rw [List.length_map]
      refine k _ fun c o e => ?_
      by_cases hc : c = d
      · subst hc
        rw [hd] at e
        rw [upd_same]
        exact e
      · rw [upd_ne hc]
        refine sG _ _ ?_
        rw [← hF, upd_ne hc]
        exact e
end
end Wq
set_option Elab.async false
set_option linter.all false
set_option maxRecDepth 100000
set_option maxHeartbeats 8000000
namespace Wq
open PySem PySem.Spec PyProof.Rows L2
open Kd (Pt Rw told most lm sumO least mostO lmost below ahead sureL openL enc leR leD)
/-! sure_first -/
abbrev sSF : Stmt := top 11
abbrev NSF : List Str := ["parts", "k", "known", "index", "told", "texts", "least", "most", "other", "sure", "opened", "part", "text"]
theorem scSF : FnScope NSF ["parts", "k"] (defScope sSF) := ⟨rfl, rfl, rfl, by decide +kernel, rfl, by decide +kernel, by decide +kernel⟩
abbrev scL1 : Scope := { kind := .function, names := [(".0", .local), ("text", .cell), ("sum", .globalImplicit), ("known", .cell)], isGenerator := false, isCoroutine := false }
abbrev scM1 : Scope := { kind := .function, names := [(".0", .local), ("text", .cell), ("sum_or_none", .globalImplicit), ("known", .cell)], isGenerator := false, isCoroutine := false }
def tvL (K : PySem.W.Frag) : TE := tCB (rSum K) (tCons (tLc (iList K (tVar 2)) (gName 11) tYes (tDGet2 (tFld K (tVar 11) "many") (tVar 12) (tC (.int 0))) [11]) tNil)
def tvM (K : PySem.W.Frag) (C : Addr) : TE := tCall spSu [] E0 (tCons (tLc (iList K (tVar 2)) (gName 11) tYes (tMeth C "most_of" (spMo C) [] E0 (tVar 11) (tCons (tVar 12) tNil)) [11]) tNil)
structure PtOk (p : Pt) : Prop where
  ok : ∀ q ∈ p.rows, RwOk q
  srt : p.rows.Pairwise fun p q => leR p q = true
  nd : (p.rows.map (·.1)).Nodup
  few : p.rows.length ≤ 20
inductive PrtV (K : PySem.W.Frag) (H : Hp) : V → Option Pt → Prop
  | ok {t r : Addr} {as : List Addr} {p : Pt} : H t = some (.tup [.ref r, .bl p.whole]) → H r = some (.tup (as.map V.ref)) → RowsA H as p.rows → PtOk p → PrtV K H (.ref t) (some p)
  | bad {t : Addr} {u w : V} : H t = some (.tup [u, w]) → AfV K H u false → PrtV K H (.ref t) none
theorem AfV.same {K : PySem.W.Frag} {H G : Hp} {u : V} {b : Bool} (h : AfV K H u b) (s : Same H G) : AfV K G u b := by
  cases h with
  | no h => exact .no (h.same s)
  | rows h1 h2 h3 h4 => exact .rows (s _ _ h1) ⟨h2.1, fun i v o a b => (h2.2 i v o a b).same s⟩ h3 h4
theorem PrtV.same {K : PySem.W.Frag} {H G : Hp} {v : V} {o : Option Pt} (h : PrtV K H v o) (s : Same H G) : PrtV K G v o := by
  cases h with
  | ok h1 h2 h3 h4 => exact .ok (s _ _ h1) (s _ _ h2) (h3.same s) h4
  | bad h1 h2 => exact .bad (s _ _ h1) (h2.same s)
def SqA (H : Hp) (a : Addr) (vs : List V) : Prop := H a = some (.lst vs) ∨ H a = some (.tup vs)
theorem SqA.same {H G : Hp} {a : Addr} {vs : List V} (h : SqA H a vs) (s : Same H G) : SqA G a vs := h.imp (s _ _) (s _ _)
def PrtsV (K : PySem.W.Frag) (H : Hp) (vs : List V) (os : List (Option Pt)) : Prop := vs.length = os.length ∧ ∀ (i : Nat) v o, vs[i]? = some v → os[i]? = some o → PrtV K H v o
theorem PrtsV.same {K : PySem.W.Frag} {H G : Hp} {vs : List V} {os : List (Option Pt)} (h : PrtsV K H vs os) (s : Same H G) : PrtsV K G vs os := ⟨h.1, fun i v o a b => (h.2 i v o a b).same s⟩
def manyRows (ps : List Pt) : Nat := (ps.map fun p => p.rows.length).sum
/-- what comes of parts and a number -/
inductive SfR (K : PySem.W.Frag) (CR CN : Addr) (H : Hp) (Q : VK) (E : XK) : List (Option Pt) → V → Prop
  | good {ps : List Pt} {k : Int} : 1 ≤ k → k < 1000 → manyRows ps < 60 → ps.length ≤ 20 → (∀ ys t a b G, sortedS ys = true → ys.Nodup → (∀ x, x ∈ ys ↔ ∃ p ∈ ps, x ∈ p.rows.map (·.1)) → Same H G → G t = some (.tup [.ref a, .ref b]) →
      G a = some (.tup ((sureL ys ps k).map V.str)) → G b = some (.tup ((openL ys ps k).map V.str)) → Q (.ref t) G) → SfR K CR CN H Q E (ps.map some) (.int k)
  | bad {ps : List Pt} {os : List (Option Pt)} {kv : V} : ps.length + os.length ≤ 18 → (∀ d G, ErrN H G d (.int ps.length) → E (.ref CR) (some d) G) → SfR K CR CN H Q E (ps.map some ++ none :: os) kv
  | odd {ps : List Pt} {kv : V} {d : PyData} {t : String} : ps.length ≤ 20 → OV K H kv d t → (fInt d = false ∨ ∃ i, kv = .int i ∧ i < 1) → (∀ d G, Err2 H G d [("number", kv), ("what", .str "k")] → E (.ref CN) (some d) G) → SfR K CR CN H Q E (ps.map some) kv
def spSF (K : PySem.W.Frag) (CR CN : Addr) : Sp := fun vs H Q E => ∃ (u : Addr) (kv : V) (xs : List V) (os : List (Option Pt)), vs = [.ref u, kv] ∧ SqA H u xs ∧ PrtsV K H xs os ∧ SfR K CR CN H Q E os kv
structure MkK (P : Program) (w : World) (K : PySem.W.Frag) (mg : Str → Option Value) (base : Heap) (C : Addr) : Prop where
  gC : mg "KnownRows" = some (.ref C)
  ex : ∃ f fd, Mk K C f ∧ FnOk P w K mg base CX0 1 f fd ["self", "rows", "is_whole"] (spKI K C) ∧ L2.Binds K fd ["self", "rows", "is_whole"] []
structure MoK (P : Program) (w : World) (K : PySem.W.Frag) (mg : Str → Option Value) (base : Heap) (C : Addr) : Prop where
  ex : ∃ f fd, Meth K C "most_of" f ∧ FnOk P w K mg base CX0 1 f fd ["self", "text"] (spMo C) ∧ L2.Binds K fd ["self", "text"] []
structure ErK (P : Program) (w : World) (K : PySem.W.Frag) (mg : Str → Option Value) (base : Heap) (CR CN : Addr) : Prop where
  r : ∃ fI fd, TxtF K mg CR fI ∧ FnOk P w K mg base CX0 1 fI fd ["self", "index"] (spRw CR) ∧ L2.Binds K fd ["self", "index"] []
  n : ∃ fI fd, TxtE K mg CN fI "BadNumber" "what" "number" ∧ FnOk P w K mg base CX0 1 fI fd ["self", "what", "number"] (spE2 CN "what" "number") ∧ L2.Binds K fd ["self", "what", "number"] []
abbrev Kz := Addr × Addr × Pt
structure KnL (H : Hp) (C l : Addr) (zs : List Kz) : Prop where
  lst : H l = some (.lst (zs.map fun z => V.ref z.1))
  at_ : ∀ z ∈ zs, KnAt H C z.1 z.2.2 z.2.1
  nd : (zs.map fun z => z.2.1).Nodup
theorem KnL.same {H G : Hp} {C l : Addr} {zs : List Kz} (h : KnL H C l zs) (s : Same H G) : KnL G C l zs := ⟨s _ _ h.lst, fun z hz => (h.at_ z hz).same s, h.nd⟩
theorem mapSome_inj {α : Type} {xs ys : List α} (h : xs.map some = ys.map some) : xs = ys := (List.map_inj_right (fun a b h => Option.some.inj h)).mp h
theorem SfR.inv {K : PySem.W.Frag} {CR CN : Addr} {H : Hp} {Q : VK} {E : XK} {os : List (Option Pt)} {kv : V} (h : SfR K CR CN H Q E os kv) {ps : List Pt} (e : os = ps.map some) :
    (∃ k : Int, kv = .int k ∧ 1 ≤ k ∧ k < 1000 ∧ manyRows ps < 60 ∧ ps.length ≤ 20 ∧ ∀ ys t a b G, sortedS ys = true → ys.Nodup → (∀ x, x ∈ ys ↔ ∃ p ∈ ps, x ∈ p.rows.map (·.1)) → Same H G → G t = some (.tup [.ref a, .ref b]) →
      G a = some (.tup ((sureL ys ps k).map V.str)) → G b = some (.tup ((openL ys ps k).map V.str)) → Q (.ref t) G) ∨
    (∃ d t, OV K H kv d t ∧ (fInt d = false ∨ ∃ i, kv = .int i ∧ i < 1) ∧ ∀ d G, Err2 H G d [("number", kv), ("what", .str "k")] → E (.ref CN) (some d) G) := by
  cases h with
  | good h1 h2 h3 h4 h5 =>
    obtain rfl := mapSome_inj e
    exact .inl ⟨_, rfl, h1, h2, h3, h4, h5⟩
  | bad h1 h2 =>
    have : (none : Option Pt) ∈ ps.map some := by rw [← e]; exact List.mem_append_right _ List.mem_cons_self
    obtain ⟨_, _, z⟩ := List.mem_map.mp this
    cases z
  | odd h1 h2 h3 h4 => exact .inr ⟨_, _, h2, h3, h4⟩
theorem SfR.at_bad {K : PySem.W.Frag} {CR CN : Addr} {H : Hp} {Q : VK} {E : XK} {os : List (Option Pt)} {kv : V} (h : SfR K CR CN H Q E os kv) {n : Nat} {ps : List Pt} (e : os.take n = ps.map some) (e2 : os[n]? = some none) :
    ∀ d G, ErrN H G d (.int n) → E (.ref CR) (some d) G := by
  have no : ∀ {qs : List Pt}, (qs.map some)[n]? ≠ some none := fun {qs} z => by
    rw [List.getElem?_map] at z
    cases eq : qs[n]? with
    | none => rw [eq] at z; cases z
    | some q => rw [eq] at z; cases z
  cases h with
  | good _ _ _ _ _ => exact absurd e2 no
  | odd _ _ _ _ => exact absurd e2 no
  | bad h1 h2 =>
    rename_i qs os2
    have hn : n = qs.length := by
      rcases Nat.lt_trichotomy n qs.length with hl | hl | hl
      · rw [List.getElem?_append_left (by rw [List.length_map]; exact hl)] at e2
        exact absurd e2 no
      · exact hl
      · have : (none : Option Pt) ∈ (qs.map some ++ none :: os2).take n := by
          rw [List.take_append]
          refine List.mem_append_right _ ?_
          rw [List.length_map]
          have : n - qs.length = (n - qs.length - 1) + 1 := by omega
          rw [this, List.take_succ_cons]
          exact List.mem_cons_self
        rw [e] at this
        obtain ⟨_, _, z⟩ := List.mem_map.mp this
        cases z
    rw [hn]
    exact h2
theorem SfR.few {K : PySem.W.Frag} {CR CN : Addr} {H : Hp} {Q : VK} {E : XK} {os : List (Option Pt)} {kv : V} (h : SfR K CR CN H Q E os kv) : os.length ≤ 20 := by
  cases h with
  | good _ _ _ h _ => rw [List.length_map]; exact h
  | odd h _ _ _ => rw [List.length_map]; exact h
  | bad h _ => rw [List.length_append, List.length_map, List.length_cons]; omega
theorem rows_its {H : Hp} {as : List Addr} {rs : List Rw} (h : RowsA H as rs) (ok : ∀ q ∈ rs, RwOk q) : ItsV H (as.map V.ref) (rs.map some) := by
  refine ⟨by rw [List.length_map, List.length_map, h.len], fun i v o hv ho => ?_⟩
  obtain ⟨a, q, rfl, hq, ha⟩ := h.get hv
  rw [List.getElem?_map, hq] at ho
  obtain rfl := Option.some.inj ho
  exact .ok ha (ok q (List.mem_of_getElem? hq))
theorem sub_len {l m : List Str} (h1 : l.Nodup) (h : ∀ x ∈ l, x ∈ m) : l.length ≤ m.length := by
  induction l generalizing m with
  | nil => exact Nat.zero_le _
  | cons x l ih =>
    have hx := h x List.mem_cons_self
    obtain ⟨n1, n2⟩ := List.nodup_cons.mp h1
    have e := List.length_erase_of_mem hx
    have hp : 0 < m.length := List.length_pos_of_mem hx
    have := ih (m := m.erase x) n2 fun y hy => (List.mem_erase_of_ne (fun e : y = x => n1 (e ▸ hy))).mpr (h y (List.mem_cons_of_mem _ hy))
    rw [List.length_cons]
    omega
theorem filt_take {ys : List Str} {P : Str → Bool} {i : Nat} {y : Str} (h : ys[i]? = some y) : (ys.take (i + 1)).filter P = (ys.take i).filter P ++ if P y = true then [y] else [] := by
  rw [List.take_add_one, h, List.filter_append]
  congr 1
  simp only [Option.toList, List.filter_cons, List.filter_nil]
theorem filt_len {ys : List Str} {P : Str → Bool} {i : Nat} : ((ys.take i).filter P).length ≤ ys.length := by
  have := List.length_filter_le P (ys.take i)
  rw [List.length_take] at this
  omega
theorem inV_str (x : Str) : ∀ xs : List Str, inV (.str x) (xs.map V.str) = decide (x ∈ xs)
  | [] => by simp [inV]
  | y :: xs => by
    have := inV_str x xs
    unfold inV at *
    rw [List.map_cons, List.any_cons, this]
    show (y == x || _) = _
    by_cases h : x = y
    · simp [h]
    · have h2 : (y == x) = false := by rw [beq_eq_false_iff_ne]; exact fun e => h e.symm
      rw [h2, Bool.false_or]
      simp [h]
theorem take_sum {α : Type} {l : List α} {f : α → Int} : (l.map f).sum = (l.map f).sum := rfl
def namesZ (zs : List Kz) : List Str := zs.flatMap fun z => z.2.2.rows.map (·.1)
theorem namesZ_len (zs : List Kz) : (namesZ zs).length = manyRows (zs.map (·.2.2)) := by
  unfold namesZ manyRows
  induction zs with
  | nil => rfl
  | cons z zs ih =>
    rw [List.flatMap_cons, List.length_append, ih, List.map_cons, List.map_cons, List.sum_cons, List.length_map]
theorem namesZ_mem (zs : List Kz) (x : Str) : x ∈ namesZ zs ↔ ∃ p ∈ zs.map (·.2.2), x ∈ p.rows.map (·.1) := by
  unfold namesZ
  rw [List.mem_flatMap]
  constructor
  · rintro ⟨z, hz, hx⟩
    exact ⟨_, List.mem_map.mpr ⟨z, hz, rfl⟩, hx⟩
  · rintro ⟨p, hp, hx⟩
    obtain ⟨z, hz, rfl⟩ := List.mem_map.mp hp
    exact ⟨z, hz, hx⟩
theorem namesZ_take {zs : List Kz} {i : Nat} {z : Kz} (h : zs[i]? = some z) : namesZ (zs.take (i + 1)) = namesZ (zs.take i) ++ z.2.2.rows.map (·.1) := by
  unfold namesZ
  rw [List.take_add_one, h, List.flatMap_append]
  simp
theorem manyRows_take (zs : List Kz) (i : Nat) : (namesZ (zs.take i)).length ≤ (namesZ zs).length := by
  have : namesZ zs = namesZ (zs.take i) ++ namesZ (zs.drop i) := by
    unfold namesZ
    rw [← List.flatMap_append, List.take_append_drop]
  rw [this, List.length_append]
  omega
theorem dO_put {ys : List Str} {f : Str → V} {i : Nat} {y : Str} (nd : ys.Nodup) (h : ys[i]? = some y) : putK (dO (ys.take i) f) (Sum.inr y) (f y) = dO (ys.take (i + 1)) f := by
  unfold putK dO
  rw [if_neg]
  · rw [List.take_add_one, h, List.map_append]
    rfl
  · rw [List.any_eq_true]
    rintro ⟨kv, hk, e⟩
    obtain ⟨r, hr, rfl⟩ := List.mem_map.mp hk
    have e : r = y := Sum.inr.inj (of_decide_eq_true e)
    subst e
    obtain ⟨j, hj, er⟩ := List.mem_iff_getElem.mp hr
    rw [List.length_take] at hj
    rw [List.getElem_take] at er
    obtain ⟨hi, e2⟩ := List.getElem?_eq_some_iff.mp h
    have := (List.pairwise_iff_getElem.mp nd) j i (by omega) hi (by omega)
    rw [er, e2] at this
    exact this rfl
def dsZ (zs : List Kz) : List (Addr × HO) := zs.map fun z => (z.2.1, .dK (z.2.2.rows.map ent))
section
variable {P : Program} {w : World} {K : PySem.W.Frag} {mg : Str → Option Value} {base : Heap} {C CR CN : Addr}
theorem ok_SF (D : DefAt K mg "sure_first" sSF) (T : Txt K mg) (Tx : TxtX mg) (TA : TxtA mg) (TK : TxtK K mg C) (MK : MkK P w K mg base C) (MO : MoK P w K mg base C) (ER : ErK P w K mg base CR CN)
    (CI : Cl P w K mg base 1 "is_integer" (spF K fInt)) (CA : Cl P w K mg base 2 "are_first_rows" (spAF K)) (CSu : Cl P w K mg base 1 "sum_or_none" spSu) (CBe : Cl P w K mg base 1 "is_below" spBe) (CAh : Cl P w K mg base 2 "ahead_of" spAh) :
    Cle P w K mg base 4 "sure_first" (spSF K CR CN) := by
  obtain ⟨fg, fdg, FF, hm⟩ := D.ex
  obtain ⟨fI, fdI, MI, GI, bI⟩ := MK.ex
  obtain ⟨fO, fdO, MH, GO, bO⟩ := MO.ex
  obtain ⟨fR, fdR, TF, GR, bR⟩ := ER.r
  obtain ⟨fN, fdN, TE, GN, bN⟩ := ER.n
  refine ⟨fg, fdg, ["parts", "k"], FF.okX scSF (fun vs H Q E h => ?_) (fun cdv A outer s H vs Q E hr h => ?_), hm, FF.kp, FF.binds fun _ _ _ _ _ _ us hl => match us, hl with | [_, _], _ => rfl⟩
  · obtain ⟨u, kv, xs, os, rfl, _⟩ := h
    rfl
  obtain ⟨u, kv, xs, os, rfl, hu, hP, hR⟩ := h
  have hU := hu_of hr
  refine ⟨_, pss_cons (ps_set (i := 2) scSF.nd rfl (Or.inr rfl) (pe_lst pa_nil))
(C8.pss_cut (ps_for (passes_of rfl) rfl (pi_range1 rfl (by exact T.range) (pa_cons (pe_callB call_len_seq (by rfl) (by exact T.len) PySem.boot_len (pa_cons (pv 0) pa_nil)) pa_nil)) (pg_name (i := 3) scSF.nd rfl (Or.inl rfl))
(pss_cons (ps_set (i := 4) scSF.nd rfl (Or.inl rfl) (pe_ix (IxR.or ix_list ix_tup) (pv 0) (pv 3) (fun _ _ => rfl)))
(C8.pss_cut (ps_if (PW.pt (pw_or (pt_not (pt_val (pe_callB call_isiT (by rfl) (by exact Tx.isi) (by decide +kernel) (pa_cons (pv 4) (pa_cons (pe_tup (pa_cons (pe_bltn rfl (by exact T.list) (by decide +kernel) (v := .ty "list") rfl) (pa_cons (pe_bltn rfl (by exact T.tuple) (by decide +kernel) (v := .ty "tuple") rfl) pa_nil))) pa_nil))))) (pw_or (pt_cmpR op_ne (pe_callB call_len_seq (by rfl) (by exact T.len) PySem.boot_len (pa_cons (pv 4) pa_nil)) pe_int (nomark _)) (pw_or1 (pt_not (pt_val (pe_cl CA hr (by decide) rfl (pa_cons (pe_ix ix_tup (pv 4) pe_int (fun _ _ => rfl)) pa_nil))))))))
(pss_one (ps_raise rfl (takes_of rfl rfl rfl rfl) (pmk_oex TF.ox TF.iC TF.tI GR (hr.mono (by decide)) bR .nil pass0 rfl (by exact TF.gC) (by exact (pa_cons (pv 3) pa_nil)))))
pss_nil)
(pss_one (ps_expr (pe_bm PySem.F.plainAttrs_list PySem.F.slot_list_append PySem.F.type_list_append mt_append (pv 2) (pa_cons (pe_make MI GI (hr.mono (by decide)) rfl (by exact MK.gC) bI .nil pass0 (pa_cons (pe_callTy call_list_of (by rfl) (by exact T.list) (by decide +kernel) (pa_cons (pe_ix ix_tup (pv 4) pe_int (fun _ _ => rfl)) pa_nil)) (pa_cons (pe_callTy call_bool1 (by rfl) (by exact Tx.bool) (by decide +kernel) (pa_cons (pe_ix ix_tup (pv 4) pe_int (fun _ _ => rfl)) pa_nil)) pa_nil))) pa_nil)))))))
(C8.pss_cut (ps_if (PW.pt (pw_or (pt_not (pt_val (pe_cl CI hr (by decide) rfl (pa_cons (pv 1) pa_nil)))) (pw_or1 (pt_cmpR op_lt (pv 1) pe_int (nomark _)))))
(pss_one (ps_raise rfl (takes_of rfl rfl rfl rfl) (pmk_oex TE.ox TE.iC TE.tI GN (hr.mono (by decide)) bN .nil pass0 rfl (by exact TE.gC) (by exact (pa_cons pe_str (pa_cons (pv 1) pa_nil))))))
pss_nil)
(C8.pss_cut (ps_set (i := 5) scSF.nd rfl (Or.inl rfl) (pe_callB (TX.cr_sortX rfl) (by rfl) (by exact TA.sorted) (by decide +kernel) (pa_cons (Lk.pe_lockN (TX.pe_sc2 (own := [("part", 11), ("text", 12)]) (g := gName 11) (g1 := gName 12) (tt := tYes) (tt1 := tYes) (wi1 := iKeys (tFld K (tVar 11) "many")) (by rfl) scSF.nd (pi_list (pv 2)) (blkOk_by (own := [("part", 11), ("text", 12)]) (N := NSF) (sc := defScope sSF) (by decide +kernel)) (vs1 := [12]) (by decide) (fun _ _ _ _ _ => (pg_name (i := 11) scSF.nd rfl (Or.inl rfl))) (fun _ _ _ _ _ => pts_nil) (fun _ _ _ _ _ => (pi_keys (pe_fld (pv 11) rfl))) (fun _ _ _ _ _ => (pg_name (i := 12) scSF.nd rfl (Or.inl rfl))) (fun _ _ _ _ _ => pts_nil) (fun _ _ _ _ _ => (pv 12)) (fun _ => rfl) (fun _ _ => rfl))) pa_nil)))
(C8.pss_cut (ps_set (i := 6) scSF.nd rfl (Or.inr rfl) (pe_dc (own := [("text", 12)]) (g := gName 12) (tt := tYes) (tv := tvL K) (by rfl) scSF.nd (pi_list (pv 5)) (blkOk_by (own := [("text", 12)]) (N := NSF) (sc := defScope sSF) (by decide +kernel)) (fun _ _ _ _ _ => (pg_name (i := 12) scSF.nd rfl (Or.inr rfl))) (fun _ _ _ _ _ => pts_nil) (fun _ _ _ _ _ => (pv 12)) (fun _ _ _ _ _ => (pe_callB (cr_sum rfl) (by rfl) (by exact TA.sum) (by decide +kernel) (pa_cons (pe_lc (own := [("part", 11)]) (g := gName 11) (tt := tYes) (by rfl) scSF.nd (pi_list (pv 2)) (blkOk_by (own := [("part", 11)]) (N := NSF) (sc := scL1) (by decide +kernel)) (fun _ _ _ _ _ => (pg_name (i := 11) scSF.nd rfl (Or.inl rfl))) (fun _ _ _ _ _ => pts_nil) (fun _ _ _ _ _ => (pe_dget2 hU (pe_fld (pv 11) rfl) (pv 12) pe_int ⟨rfl, rfl, rfl, rfl⟩))) pa_nil)))))
(C8.pss_cut (ps_set (i := 7) scSF.nd rfl (Or.inr rfl) (pe_dc (own := [("text", 12)]) (g := gName 12) (tt := tYes) (tv := tvM K C) (by rfl) scSF.nd (pi_list (pv 5)) (blkOk_by (own := [("text", 12)]) (N := NSF) (sc := defScope sSF) (by decide +kernel)) (fun _ _ _ _ _ => (pg_name (i := 12) scSF.nd rfl (Or.inr rfl))) (fun _ _ _ _ _ => pts_nil) (fun _ _ _ _ _ => (pv 12)) (fun _ _ _ _ _ => (pe_cl CSu hr (by decide) rfl (pa_cons (pe_lc (own := [("part", 11)]) (g := gName 11) (tt := tYes) (by rfl) scSF.nd (pi_list (pv 2)) (blkOk_by (own := [("part", 11)]) (N := NSF) (sc := scM1) (by decide +kernel)) (fun _ _ _ _ _ => (pg_name (i := 11) scSF.nd rfl (Or.inl rfl))) (fun _ _ _ _ _ => pts_nil) (fun _ _ _ _ _ => (pe_meth (pv 11) TK.cl MH GO (hr.mono (by decide)) bO .nil pass0 (pa_cons (pv 12) pa_nil)))) pa_nil)))))
(C8.pss_cut (ps_set (i := 8) scSF.nd rfl (Or.inr rfl) (pe_cl CSu hr (by decide) rfl (pa_cons (pe_lc (own := [("part", 11)]) (g := gName 11) (tt := tYes) (by rfl) scSF.nd (pi_list (pv 2)) (blkOk_by (own := [("part", 11)]) (N := NSF) (sc := defScope sSF) (by decide +kernel)) (fun _ _ _ _ _ => (pg_name (i := 11) scSF.nd rfl (Or.inl rfl))) (fun _ _ _ _ _ => pts_nil) (fun _ _ _ _ _ => (pe_meth (pv 11) TK.cl MH GO (hr.mono (by decide)) bO .nil pass0 (pa_cons pe_non pa_nil)))) pa_nil)))
(C8.pss_cut (ps_set (i := 9) scSF.nd rfl (Or.inr rfl) (pe_lc (own := [("text", 12)]) (g := gName 12) (by rfl) scSF.nd (pi_list (pv 5)) (blkOk_by (own := [("text", 12)]) (N := NSF) (sc := defScope sSF) (by decide +kernel)) (fun _ _ _ _ _ => (pg_name (i := 12) scSF.nd rfl (Or.inl rfl))) (fun _ _ _ _ _ => (pts_one (PW.pt (pw_and (pt_val (pe_cl CBe hr (by decide) rfl (pa_cons (pv 8) (pa_cons (pe_dget hU (pv 6) (pv 12) (fun _ _ => rfl)) pa_nil)))) (pw_and1 (pt_cmpR op_lt (pe_cl CAh hr (by decide) rfl (pa_cons (pv 12) (pa_cons (pv 7) (pa_cons (pe_dget hU (pv 6) (pv 12) (fun _ _ => rfl)) pa_nil)))) (pv 1) (nomark _))))))) (fun _ _ _ _ _ => (pv 12))))
(C8.pss_cut (ps_setLc (i := 10) (own := [("text", 12)]) (g := gName 12) (by rfl) scSF.nd rfl rfl (sw_true rfl rfl rfl (by decide +kernel)) (pi_list (pv 5)) (blkOk_by (own := [("text", 12)]) (N := NSF) (sc := defScope sSF) (by decide +kernel)) (fun _ _ _ _ _ => (pg_name (i := 12) scSF.nd rfl (Or.inl rfl))) (fun _ _ _ _ _ => (pts_one (PW.pt (pw_and (pt_cmpR (r := rIn K true) (by exact op_notIn_seq) (pv 12) (pv 9) rfl) (pw_and1 (pt_cmpR op_lt (pe_cl CAh hr (by decide) rfl (pa_cons (pv 12) (pa_cons (pv 6) (pa_cons (pe_dget hU (pv 7) (pv 12) (fun _ _ => rfl)) pa_nil)))) (pv 1) (nomark _))))))) (fun _ _ _ _ _ => (pv 12)))
(pss_one (ps_ret (pe_tup (pa_cons (pe_callTy call_tuple_of (by rfl) (by exact T.tuple) (by decide +kernel) (pa_cons (pv 9) pa_nil)) (pa_cons (pe_callTy call_tuple_of (by rfl) (by exact T.tuple) (by decide +kernel) (pa_cons (pv 10) pa_nil)) pa_nil))))))))))))), ?_⟩
  refine ⟨(by show 0 ≤ sizeLine; exact Nat.zero_le _), fun l hl0 => ?_⟩
  have sz2 : 2 ≤ sizeLine := by rw [sizeLine_eq]; decide
  have hfew := hR.few
  refine ⟨fun σ G => ∃ (zs : List Kz) (x3 x4 : Option V), σ = [some (.ref u), some kv, some (.ref l), x3, x4, none, none, none, none, none, none, none, none] ∧ Same H G ∧ KnL G C l zs ∧ os = (zs.map (·.2.2)).map some ∧ (∀ z ∈ zs, PtOk z.2.2), ?_, ?_⟩
  · have hu1 : SqA (upd H l (.lst [])) u xs := hu.same (Same.new hl0)
    have hseq : ∀ {G : Hp}, Same H G → SqL K G u xs ∨ SqT K G u xs := fun s => (hu.same s).imp (fun h => .inl (.inl h)) (fun h => .inl (.inl h))
    have hxl : xs.length ≤ 20 := by rw [hP.1]; exact hfew
    refine ⟨_, rfl, u, xs, rfl, hseq (Same.new hl0), (xs.length : Int), rfl, by omega, by omega, ?_⟩
    refine for_range (lo := 0) (n := xs.length) (fun i σ G => ∃ (zs : List Kz) (x3 x4 : Option V), σ = [some (.ref u), some kv, some (.ref l), x3, x4, none, none, none, none, none, none, none, none] ∧ Same H G ∧ KnL G C l zs ∧ os.take i = (zs.map (·.2.2)).map some ∧ (∀ z ∈ zs, PtOk z.2.2))
      ⟨[], none, none, rfl, Same.new hl0, ⟨upd_same, (fun z h => by cases h), List.nodup_nil⟩, rfl, fun z h => by cases h⟩ ?_ ?_
    · rintro i σ G hi ⟨zs, x3, x4, rfl, sG, hz, ht, hok⟩
      have hv : xs[i]? = some xs[i] := List.getElem?_eq_getElem hi
      have hio : i < os.length := by rw [← hP.1]; exact hi
      have ho : os[i]? = some os[i] := List.getElem?_eq_getElem hio
      have hp := (hP.2 i _ _ hv ho).same sG
      generalize xs[i] = v at hv hp
      have hat : atI xs (0 + (i : Int)) = some v := by rw [Int.zero_add]; exact atI_nat hv
      have hsq : ∀ {R : VK}, R v G → (rIxL K (.ref u) (.int (0 + (i : Int))) G R ∨ rIxT K (.ref u) (.int (0 + (i : Int))) G R) := fun r => (hseq sG).imp (fun h => ⟨u, xs, _, v, rfl, rfl, h, hat, r⟩) (fun h => ⟨u, xs, _, v, rfl, rfl, h, hat, r⟩)
      refine ⟨_, rfl, _, rfl, hsq ?_⟩
      have hbad : os[i] = none → ∀ d G', ErrN H G' d (.int (0 + (i : Int))) → E (.ref CR) (some d) G' := fun e => by
        rw [Int.zero_add]
        exact hR.at_bad ht (by rw [ho, e])
      refine ⟨fun σ G' => ∃ (p : Pt) (t r : Addr) (as : List Addr), σ = [some (.ref u), some kv, some (.ref l), some (.int (0 + (i : Int))), some (.ref t), none, none, none, none, none, none, none, none] ∧ Same G G' ∧ os[i] = some p ∧ G t = some (.tup [.ref r, .bl p.whole]) ∧ G r = some (.tup (as.map V.ref)) ∧ RowsA G as p.rows ∧ PtOk p, ?_, ?_⟩
      · revert hp
        revert hbad
        generalize os[i] = oi
        intro hbad hp
        cases hp with
        | ok h1 h2 h3 h4 =>
          rename_i t r as p
          refine ⟨_, rfl, sz2, fun tp htp => ?_⟩
          obtain ⟨tt, z1, z2⟩ := (Sq.same (Sq.tup (K := K) h1) (Same.new (o := tyT) htp)).ty
          refine ⟨_, tp, _, _, _, _, rfl, upd_same, .cons (.ty "list") (.cons (.ty "tuple") .nil), z1, z2, _, rfl, ?_⟩
          have s' := Same.new (o := tyT) htp
          generalize upd G tp tyT = G' at s'
          refine (if_neg (by decide)).mpr ⟨_, rfl, t, _, rfl, .inr (.inl (.inl (s' _ _ h1))), rfl, _, rfl, ?_⟩
          refine (if_neg (by simp)).mpr ?_
          refine ⟨_, rfl, t, _, 0, .ref r, rfl, rfl, .inl (.inl (s' _ _ h1)), rfl, .ref r, true, rfl, .rows (s' _ _ h2) (rows_its (h3.same s') h4.ok) (by rw [List.length_map]; exact h4.few) (.good h4.srt h4.nd), fun G3 s3 => ⟨_, rfl, ?_⟩⟩
          exact (if_neg (by decide)).mpr ⟨p, t, r, as, rfl, s'.trans s3, rfl, h1, h2, h3, h4⟩
        | bad h1 h2 =>
          rename_i t u' w'
          refine ⟨_, rfl, sz2, fun tp htp => ?_⟩
          obtain ⟨tt, z1, z2⟩ := (Sq.same (Sq.tup (K := K) h1) (Same.new (o := tyT) htp)).ty
          refine ⟨_, tp, _, _, _, _, rfl, upd_same, .cons (.ty "list") (.cons (.ty "tuple") .nil), z1, z2, _, rfl, ?_⟩
          have s' := Same.new (o := tyT) htp
          generalize upd G tp tyT = G' at s'
          refine (if_neg (by decide)).mpr ⟨_, rfl, t, _, rfl, .inr (.inl (.inl (s' _ _ h1))), rfl, _, rfl, ?_⟩
          refine (if_neg (by simp)).mpr ?_
          refine ⟨_, rfl, t, _, 0, u', rfl, rfl, .inl (.inl (s' _ _ h1)), rfl, u', false, rfl, h2.same s', fun G3 s3 => ⟨_, rfl, ?_⟩⟩
          refine (if_pos rfl).mpr ?_
          refine ⟨_, rfl, (by show 1 ≤ 1000; decide), fun a ha => ⟨a, _, rfl, upd_same, fun d hd hda => ⟨rfl, d, _, upd_same, by rw [upd_ne hda, upd_same], by rw [upd_ne hda] at hd; exact hd, ?_⟩⟩⟩
          exact hbad rfl d _ (ErrN.mono (sG.trans (s'.trans s3)) (errN_heap ha hd hda))
      rintro σ G3 ⟨p, t, r, as, rfl, s3, hop, h1, h2, h3, h4⟩
      have hl3 := s3 _ _ hz.lst
      have h1' := s3 _ _ h1
      have h2' := s3 _ _ h2
      refine ⟨_, rfl, .inl ⟨rfl, _, .inl (.inl hl3)⟩, ?_⟩
      refine ⟨_, rfl, t, _, 0, .ref r, rfl, rfl, .inl (.inl h1'), rfl, r, _, rfl, .inr (.inl (.inl h2')), fun l2 hl2 => ?_⟩
      have s4 := Same.new (o := .lst (as.map V.ref)) hl2
      refine ⟨_, rfl, t, _, 1, .bl p.whole, rfl, rfl, .inl (.inl (s4 _ _ h1')), rfl, .inr ⟨_, rfl, fun x dx hx hdx hne => ?_⟩⟩
      have s5 : Same (upd G3 l2 (.lst (as.map V.ref))) (upd (upd (upd G3 l2 (.lst (as.map V.ref))) dx (.own x)) x (.ins C dx [])) := fun b o e => by
        rw [upd_ne (ne_of_none e hx), upd_ne (ne_of_none e hdx)]
        exact e
      have hl2' : upd G3 l2 (.lst (as.map V.ref)) l2 = some (.lst (as.map V.ref)) := upd_same
      refine ⟨x, dx, l2, p.whole, as, p.rows, rfl, upd_same, s5 _ _ hl2', (h3.same s3).same (s4.trans s5), h4.nd, Nat.le_trans h4.few (by decide), fun d G6 hd s6 hK => ⟨rfl, ?_⟩⟩
      have xG3 : G3 x = none := none_of s4 hx
      have s7 : Same G3 G6 := fun b o e => s6 b o (s5 _ _ (s4 _ _ e)) (ne_of_none e xG3)
      have dG3 : G3 d = none := none_of (s4.trans s5) hd
      have hzl : (zs.map fun z => V.ref z.1).length = zs.length := List.length_map _
      have hzn : zs.length = i := by
        have := congrArg List.length ht
        rw [List.length_take, List.length_map, List.length_map] at this
        omega
      refine ⟨l, _, _, rfl, rfl, s7 _ _ hl3, by rw [hzl, sizeLine_eq]; omega, ?_⟩
      have nxl : x ≠ l := (ne_of_none hl3 xG3).symm
      have ndl : d ≠ l := (ne_of_none hl3 dG3).symm
      have put_l : ∀ b o, G6 b = some o → b ≠ l → upd G6 l (.lst ((zs.map fun z => V.ref z.1) ++ [.ref x])) b = some o := fun b o e n => by rw [upd_ne n]; exact e
      have kn : ∀ {a d' : Addr} {q : Pt}, KnAt G6 C a q d' → KnAt (upd G6 l (.lst ((zs.map fun z => V.ref z.1) ++ [.ref x]))) C a q d' := fun h => by
        obtain ⟨dx', lv, y1, y2, y3⟩ := h.ex
        have hl6 := s7 _ _ hl3
        refine ⟨dx', lv, put_l _ _ y1 (ne_of y1 hl6 (by intro z; cases z)), put_l _ _ y2 (ne_of y2 hl6 (by intro z; cases z)), ?_⟩
        rcases y3 with y3 | ⟨q', t', y4, y5, y6⟩
        · exact .inl y3
        · exact .inr ⟨q', t', y4, y5, put_l _ _ y6 (ne_of y6 hl6 (by intro z; cases z))⟩
      refine ⟨zs ++ [(x, d, p)], some (.int (0 + (i : Int))), some (.ref t), rfl, fun b o e => ?_, ⟨?_, ?_, ?_⟩, ?_, ?_⟩
      · exact put_l _ _ (s7 _ _ (s3 _ _ (sG _ _ e))) (ne_of_none e hl0)
      · rw [upd_same, List.map_append]
        rfl
      · intro z hz'
        rcases List.mem_append.mp hz' with hz' | hz'
        · exact kn (((hz.at_ z hz').same s3).same s7)
        · rw [List.mem_singleton.mp hz']
          exact kn hK
      · rw [List.map_append]
        refine List.nodup_append.mpr ⟨hz.nd, by simp, fun a ha b hb => ?_⟩
        rw [List.mem_singleton.mp hb]
        obtain ⟨z, hz', rfl⟩ := List.mem_map.mp ha
        obtain ⟨dx', lv, y1, y2, y3⟩ := (hz.at_ z hz').ex
        exact ne_of_none (s3 _ _ y2) dG3
      · rw [List.take_add_one, ho, hop, ht, List.map_append, List.map_append]
        rfl
      · intro z hz'
        rcases List.mem_append.mp hz' with hz' | hz'
        · exact hok z hz'
        · rw [List.mem_singleton.mp hz']
          exact h4
    · rintro σ G ⟨zs, x3, x4, rfl, sG, hz, ht, hok⟩
      refine ⟨zs, x3, x4, rfl, sG, hz, ?_, hok⟩
      rw [← ht, List.take_of_length_le (by rw [hP.1]; exact Nat.le_refl _)]
  rintro σ G1 ⟨zs, x3, x4, rfl, s1, hz, he, hok⟩
  refine ⟨fun σ G => ∃ k : Int, kv = .int k ∧ σ = [some (.ref u), some (.int k), some (.ref l), x3, x4, none, none, none, none, none, none, none, none] ∧ Same G1 G ∧ 1 ≤ k ∧ k < 1000 ∧ manyRows (zs.map (·.2.2)) < 60 ∧ (zs.map (·.2.2)).length ≤ 20 ∧
    (∀ ys t a b G, sortedS ys = true → ys.Nodup → (∀ x, x ∈ ys ↔ ∃ p ∈ zs.map (·.2.2), x ∈ p.rows.map (·.1)) → Same H G → G t = some (.tup [.ref a, .ref b]) →
      G a = some (.tup ((sureL ys (zs.map (·.2.2)) k).map V.str)) → G b = some (.tup ((openL ys (zs.map (·.2.2)) k).map V.str)) → Q (.ref t) G), ?_, ?_⟩
  · have no_k : ∀ G, Same H G → (∀ d G, Err2 H G d [("number", kv), ("what", .str "k")] → E (.ref CN) (some d) G) → True := fun _ _ _ => trivial
    rcases hR.inv he with ⟨k, rfl, k1, k2, k3, k4, k5⟩ | ⟨d, t, hd, hc, k6⟩
    · refine ⟨_, rfl, _, _, _, rfl, .int k (by omega), fun G2 s2 => ⟨_, rfl, ?_⟩⟩
      refine (if_neg (by show ¬(!true) = true; decide)).mpr ?_
      refine ⟨_, rfl, _, _, rfl, rfl, _, rfl, ?_⟩
      refine (if_neg (by rw [decide_eq_true_eq]; omega)).mpr ?_
      exact ⟨k, rfl, rfl, s2, k1, k2, k3, k4, k5⟩
    · have rse : ∀ G2, Same G1 G2 → True := fun _ _ => trivial
      refine ⟨_, rfl, _, _, _, rfl, hd.same s1, fun G2 s2 => ⟨_, rfl, ?_⟩⟩
      have rse : ∀ (D : Ends) (a0 : Addr), True := fun _ _ => trivial
      cases hfi : fInt d with
      | false =>
        refine (if_pos rfl).mpr ((if_pos rfl).mpr ?_)
        refine ⟨_, rfl, (by show 2 ≤ 1000; decide), fun a ha => ⟨a, _, _, rfl, upd_same, fun d hd hda => ⟨rfl, d, _, by rw [upd_ne hda.symm]; exact upd_same, upd_same, by rw [upd_ne hda] at hd; exact hd, ?_⟩⟩⟩
        obtain ⟨e1, e2, e3⟩ := err2_heap (f1 := "what") (f2 := "number") (v1 := .str "k") (v2 := kv) ha hd hda
        exact k6 d _ ⟨(s1.trans s2).trans e1, none_of (s1.trans s2) e2, e3⟩
      | true =>
        obtain ⟨j, rfl, hj⟩ := hc.resolve_left (by rw [hfi]; decide)
        refine (if_neg (by decide)).mpr ?_
        refine ⟨_, rfl, _, _, rfl, rfl, _, rfl, ?_⟩
        refine (if_pos (by rw [decide_eq_true_eq]; omega)).mpr ?_
        refine ⟨_, rfl, (by show 2 ≤ 1000; decide), fun a ha => ⟨a, _, _, rfl, upd_same, fun d hd hda => ⟨rfl, d, _, by rw [upd_ne hda.symm]; exact upd_same, upd_same, by rw [upd_ne hda] at hd; exact hd, ?_⟩⟩⟩
        obtain ⟨e1, e2, e3⟩ := err2_heap (f1 := "what") (f2 := "number") (v1 := .str "k") (v2 := .int j) ha hd hda
        exact k6 d _ ⟨(s1.trans s2).trans e1, none_of (s1.trans s2) e2, e3⟩
  rintro σ G2 ⟨k, rfl, rfl, s2, k1, k2, k3, k4, k5⟩
  have hz2 := hz.same s2
  have sH2 := s1.trans s2
  have hzl : (zs.map fun z => V.ref z.1).length = zs.length := List.length_map _
  have hzn : zs.length ≤ 20 := by rw [List.length_map] at k4; exact k4
  have hnm : (namesZ zs).length < 60 := by rw [namesZ_len]; exact k3
  have zat : ∀ {i : Nat} {v : V}, (zs.map fun z => V.ref z.1)[i]? = some v → ∃ z, zs[i]? = some z ∧ v = .ref z.1 ∧ z ∈ zs := fun {i v} h => by
    rw [List.getElem?_map] at h
    cases e : zs[i]? with
    | none => rw [e] at h; cases h
    | some z =>
      rw [e] at h
      exact ⟨z, rfl, (Option.some.inj h).symm, List.mem_of_getElem? e⟩
  -- texts
  refine ⟨fun σ G => ∃ (lt : Addr) (ys : List Str), σ = [some (.ref u), some (.int k), some (.ref l), x3, x4, some (.ref lt), none, none, none, none, none, none, none] ∧ Same G2 G ∧ G lt = some (.lst (ys.map V.str)) ∧ sortedS ys = true ∧ ys.Nodup ∧ (∀ x, x ∈ ys ↔ x ∈ namesZ zs) ∧ ys.length ≤ 60, ?_, ?_⟩
  · refine ⟨dsZ zs, ?_, fun q hq => ?_, fun H1 o1 f1 => ?_⟩
    · unfold dsZ
      rw [List.map_map]
      exact hz2.nd
    · obtain ⟨z, hz', rfl⟩ := List.mem_map.mp hq
      obtain ⟨_, _, _, y2, _⟩ := (hz2.at_ z hz').ex
      exact ⟨y2, trivial⟩
    have out_of : ∀ {b o}, G2 b = some o → (∀ kvs, o ≠ .dK kvs) → H1 b = some o := fun {b o} e n => by
      rw [o1 b fun q hq e2 => ?_]
      · exact e
      · obtain ⟨z, hz', rfl⟩ := List.mem_map.mp hq
        obtain ⟨_, _, _, y2, _⟩ := (hz2.at_ z hz').ex
        have e2 : z.2.1 = b := e2
        rw [← e2, y2] at e
        exact n _ (Option.some.inj e).symm
    have hl1 := out_of hz2.lst (by intro kvs z; cases z)
    refine ⟨_, rfl, l, rfl, ⟨_, .inl (.inl hl1)⟩, fun D hD => ?_⟩
    refine Lk.go_list (K := K) (a := l) (xs := zs.map fun z => V.ref z.1) (fun i G => Same H1 G ∧ G D = some (TX.SetX w D (namesZ (zs.take i)))) ⟨Same.new hD, upd_same⟩ (fun i G _ h => .inl (.inl (h.1 _ _ hl1))) ?_ ?_
    · rintro i v G hv ⟨sG, hG⟩
      obtain ⟨z, ez, rfl, mz⟩ := zat hv
      obtain ⟨dx, lv, y1, y2, y3⟩ := (hz2.at_ z mz).ex
      have y1' := out_of y1 (by intro kvs z; cases z)
      obtain ⟨od, hod⟩ := f1 (z.2.1, .dK (z.2.2.rows.map ent)) (List.mem_map.mpr ⟨z, mz, rfl⟩)
      refine ⟨rfl, ?_⟩
      simp only [tYes, if_true]
      refine ⟨_, rfl, z.1, C, dx, _, _, rfl, sG _ _ y1', TK.cl, TK.nM, rfl, z.2.1, od, rfl, .inl ⟨_, sG _ _ hod, ?_⟩⟩
      refine Lk.go_keys (d := z.2.1) (o := od) (kvs := z.2.2.rows.map ent) (fun j G' => Same H1 G' ∧ G' D = some (TX.SetX w D (namesZ (zs.take i) ++ (z.2.2.rows.take j).map (·.1)))) ⟨sG, by simpa using hG⟩ (fun j G' _ h => h.1 _ _ hod) ?_ ?_
      · rintro j ky v G' hv' ⟨sG', hG'⟩
        rw [List.getElem?_map] at hv'
        cases er : z.2.2.rows[j]? with
        | none => rw [er] at hv'; cases hv'
        | some q =>
        rw [er] at hv'
        obtain ⟨e1, e2⟩ := Prod.mk.inj (Option.some.inj hv')
        subst e1 e2
        refine ⟨rfl, ?_⟩
        simp only [tYes, if_true]
        refine ⟨_, rfl, q.1, _, rfl, hG', ?_, Same.put sG' hD, ?_⟩
        · have := manyRows_take zs (i + 1)
          rw [namesZ_take ez, List.length_append, List.length_map] at this
          rw [List.length_append, List.length_map, List.length_take]
          omega
        · rw [upd_same, List.take_add_one, er, List.map_append, List.append_assoc]
          rfl
      · rintro G' ⟨sG', hG'⟩
        rw [List.length_map, List.take_length] at hG'
        exact ⟨sG', by rw [namesZ_take ez]; exact hG'⟩
    · rintro G ⟨sG, hG⟩
      rw [hzl, List.take_length] at hG
      refine ⟨fun q hq => ?_, fun H3 o3 f3 => ?_⟩
      · obtain ⟨od, hod⟩ := f1 q hq
        exact ⟨od, sG _ _ hod⟩
      have s3 : Same G2 H3 := fun b o e => by
        by_cases hb : Lk.Out (dsZ zs) b
        · rw [o3 b hb]
          exact sG _ _ (by rw [o1 b hb]; exact e)
        · obtain ⟨q, hq⟩ := Classical.not_forall.mp hb
          obtain ⟨hq1, hq2⟩ := Classical.not_imp.mp hq
          have hq2 := Classical.not_not.mp hq2
          rw [← hq2, f3 q hq1]
          obtain ⟨z, hz', rfl⟩ := List.mem_map.mp hq1
          obtain ⟨_, _, _, y2, _⟩ := (hz2.at_ z hz').ex
          rw [← hq2] at e
          exact y2.symm.trans e
      have oD : Lk.Out (dsZ zs) D := fun q hq e => by
        obtain ⟨od, hod⟩ := f1 q hq
        rw [e, hD] at hod
        cases hod
      refine ⟨D, namesZ zs, rfl, by rw [o3 D oD]; exact hG, by omega, fun ys p y1 y2 y3 hp => ?_⟩
      refine ⟨p, ys, rfl, s3.trans (Same.new hp), upd_same, y1, y2, y3, ?_⟩
      have : ys.length ≤ (namesZ zs).length := sub_len y2 fun x hx => (y3 x).mp hx
      omega
  rintro σ G3 ⟨lt, ys, rfl, s3, hlt, hs, hnd, hmem, hyl⟩
  have hz3 := hz2.same s3
  have yat : ∀ {i : Nat} {v : V}, (ys.map V.str)[i]? = some v → ∃ y, ys[i]? = some y ∧ v = .str y := fun {i v} h => by
    rw [List.getElem?_map] at h
    cases e : ys[i]? with
    | none => rw [e] at h; cases h
    | some y =>
      rw [e] at h
      exact ⟨y, rfl, (Option.some.inj h).symm⟩
  have hyl' : (ys.map V.str).length = ys.length := List.length_map _
  -- least
  refine ⟨fun σ G => ∃ dl : Addr, σ = [some (.ref u), some (.int k), some (.ref l), x3, x4, some (.ref lt), some (.ref dl), none, none, none, none, none, none] ∧ Same G3 G ∧ G dl = some (.dK (dO ys fun y => oV (some (least (zs.map (·.2.2)) y)))), ?_, ?_⟩
  · refine ⟨_, rfl, lt, rfl, ⟨_, .inl (.inl hlt)⟩, fun D hD => ?_⟩
    refine Lk.go_list (K := K) (a := lt) (xs := ys.map V.str) (fun i G => Same G3 G ∧ G D = some (.dK (dO (ys.take i) fun y => oV (some (least (zs.map (·.2.2)) y))))) ⟨Same.new hD, upd_same⟩ (fun i G _ h => .inl (.inl (h.1 _ _ hlt))) ?_ ?_
    · rintro i v G hv ⟨sG, hG⟩
      obtain ⟨y, ey, rfl⟩ := yat hv
      refine ⟨rfl, ?_⟩
      simp only [tYes, if_true]
      refine ⟨_, rfl, _, rfl, l, rfl, ⟨_, .inl (.inl (sG _ _ hz3.lst))⟩, fun D2 hD2 => ?_⟩
      refine Lk.go_list (K := K) (a := l) (xs := zs.map fun z => V.ref z.1) (fun j G' => Same G G' ∧ G' D2 = some (.lst (((zs.take j).map fun z => (told z.2.2 y).getD 0).map V.int))) ⟨Same.new hD2, upd_same⟩ (fun j G' _ h => .inl (.inl ((sG.trans h.1) _ _ hz3.lst))) ?_ ?_
      · rintro j v G' hv' ⟨sG', hG'⟩
        obtain ⟨z, ez, rfl, mz⟩ := zat hv'
        obtain ⟨dx, lv, y1, y2, y3⟩ := ((hz3.at_ z mz).same (sG.trans sG')).ex
        refine ⟨rfl, ?_⟩
        simp only [tYes, if_true]
        have hg := DGet.k (k := Sum.inr y) y2
        rw [valV_ent] at hg
        refine ⟨_, rfl, z.1, C, dx, _, _, rfl, y1, TK.cl, TK.nM, rfl, z.2.1, rfl, .inl ⟨_, .inl y2⟩, _, rfl, _, hg, _, hG', ?_, Same.put sG' hD2, ?_⟩
        · rw [List.length_map, List.length_map, List.length_take, sizeLine_eq]
          omega
        · rw [upd_same, List.take_add_one, ez, List.map_append, List.map_append]
          have : ((told z.2.2 y).map V.int).getD (.int 0) = .int ((told z.2.2 y).getD 0) := by cases told z.2.2 y <;> rfl
          rw [this]
          rfl
      · rintro G' ⟨sG', hG'⟩
        rw [hzl, List.take_length] at hG'
        refine ⟨D2, _, rfl, .inl (.inl hG'), dO (ys.take i) fun y => oV (some (least (zs.map (·.2.2)) y)), Sum.inr y, rfl, sG' _ _ hG, ?_, Same.put (sG.trans sG') hD, ?_⟩
        · unfold dO
          rw [List.length_map, List.length_take, sizeLine_eq]
          omega
        · have e1 : ((zs.map fun z => (told z.2.2 y).getD 0)).sum = least (zs.map (·.2.2)) y := by
            unfold least
            rw [List.map_map]
            rfl
          rw [e1, upd_same]
          exact congrArg (fun x => some (HO.dK x)) (dO_put (f := fun y => oV (some (least (zs.map (·.2.2)) y))) hnd ey)
    · rintro G ⟨sG, hG⟩
      rw [hyl', List.take_length] at hG
      exact ⟨D, rfl, sG, hG⟩
  rintro σ G4 ⟨dl, rfl, s4, hdl⟩
  have hz4 := hz3.same s4
  have hlt4 := s4 _ _ hlt
  -- most
  have mosts : ∀ (G : Hp) (x : Option Str) (R : VK), Same G4 G → True := fun _ _ _ _ => trivial
  refine ⟨fun σ G => ∃ dm : Addr, σ = [some (.ref u), some (.int k), some (.ref l), x3, x4, some (.ref lt), some (.ref dl), some (.ref dm), none, none, none, none, none] ∧ Same G4 G ∧ G dm = some (.dK (dO ys fun y => oV (mostO (zs.map (·.2.2)) (some y)))), ?_, ?_⟩
  · refine ⟨_, rfl, lt, rfl, ⟨_, .inl (.inl hlt4)⟩, fun D hD => ?_⟩
    refine Lk.go_list (K := K) (a := lt) (xs := ys.map V.str) (fun i G => Same G4 G ∧ G D = some (.dK (dO (ys.take i) fun y => oV (mostO (zs.map (·.2.2)) (some y))))) ⟨Same.new hD, upd_same⟩ (fun i G _ h => .inl (.inl (h.1 _ _ hlt4))) ?_ ?_
    · rintro i v G hv ⟨sG, hG⟩
      obtain ⟨y, ey, rfl⟩ := yat hv
      refine ⟨rfl, ?_⟩
      simp only [tYes, if_true]
      refine ⟨_, rfl, _, rfl, l, rfl, ⟨_, .inl (.inl (sG _ _ hz4.lst))⟩, fun D2 hD2 => ?_⟩
      refine Lk.go_list (K := K) (a := l) (xs := zs.map fun z => V.ref z.1) (fun j G' => Same G G' ∧ G' D2 = some (.lst (((zs.take j).map fun z => most z.2.2 (some y)).map oV))) ⟨Same.new hD2, upd_same⟩ (fun j G' _ h => .inl (.inl ((sG.trans h.1) _ _ hz4.lst))) ?_ ?_
      · rintro j v G' hv' ⟨sG', hG'⟩
        obtain ⟨z, ez, rfl, mz⟩ := zat hv'
        have hK := (hz4.at_ z mz).same (sG.trans sG')
        obtain ⟨dx, lv, y1, y2, y3⟩ := hK.ex
        refine ⟨rfl, ?_⟩
        simp only [tYes, if_true]
        refine ⟨_, rfl, z.1, dx, _, rfl, y1, rfl, _, rfl, z.1, z.2.1, z.2.2, some y, rfl, hK, _, hG', ?_, Same.put sG' hD2, ?_⟩
        · rw [List.length_map, List.length_map, List.length_take, sizeLine_eq]
          omega
        · rw [upd_same, List.take_add_one, ez, List.map_append, List.map_append]
          rfl
      · rintro G' ⟨sG', hG'⟩
        rw [hzl, List.take_length] at hG'
        refine ⟨D2, _, rfl, hG', dO (ys.take i) fun y => oV (mostO (zs.map (·.2.2)) (some y)), Sum.inr y, rfl, sG' _ _ hG, ?_, Same.put (sG.trans sG') hD, ?_⟩
        · unfold dO
          rw [List.length_map, List.length_take, sizeLine_eq]
          omega
        · have e1 : sumO (zs.map fun z => most z.2.2 (some y)) = mostO (zs.map (·.2.2)) (some y) := by
            unfold mostO
            rw [List.map_map]
            rfl
          rw [e1, upd_same]
          exact congrArg (fun x => some (HO.dK x)) (dO_put (f := fun y => oV (mostO (zs.map (·.2.2)) (some y))) hnd ey)
    · rintro G ⟨sG, hG⟩
      rw [hyl', List.take_length] at hG
      exact ⟨D, rfl, sG, hG⟩
  rintro σ G5 ⟨dm, rfl, s5, hdm⟩
  have hz5 := hz4.same s5
  -- other
  refine ⟨fun σ G => σ = [some (.ref u), some (.int k), some (.ref l), x3, x4, some (.ref lt), some (.ref dl), some (.ref dm), some (oV (mostO (zs.map (·.2.2)) none)), none, none, none, none] ∧ Same G5 G, ?_, ?_⟩
  · refine ⟨_, rfl, l, rfl, ⟨_, .inl (.inl hz5.lst)⟩, fun D2 hD2 => ?_⟩
    refine Lk.go_list (K := K) (a := l) (xs := zs.map fun z => V.ref z.1) (fun j G' => Same G5 G' ∧ G' D2 = some (.lst (((zs.take j).map fun z => most z.2.2 none).map oV))) ⟨Same.new hD2, upd_same⟩ (fun j G' _ h => .inl (.inl (h.1 _ _ hz5.lst))) ?_ ?_
    · rintro j v G' hv' ⟨sG', hG'⟩
      obtain ⟨z, ez, rfl, mz⟩ := zat hv'
      have hK := (hz5.at_ z mz).same sG'
      obtain ⟨dx, lv, y1, y2, y3⟩ := hK.ex
      refine ⟨rfl, ?_⟩
      simp only [tYes, if_true]
      refine ⟨_, rfl, z.1, dx, _, rfl, y1, rfl, z.1, z.2.1, z.2.2, none, rfl, hK, _, hG', ?_, Same.put sG' hD2, ?_⟩
      · rw [List.length_map, List.length_map, List.length_take, sizeLine_eq]
        omega
      · rw [upd_same, List.take_add_one, ez, List.map_append, List.map_append]
        rfl
    · rintro G' ⟨sG', hG'⟩
      rw [hzl, List.take_length] at hG'
      refine ⟨D2, _, rfl, hG', ?_⟩
      have e1 : sumO (zs.map fun z => most z.2.2 none) = mostO (zs.map (·.2.2)) none := by
        unfold mostO
        rw [List.map_map]
        rfl
      rw [e1]
      exact ⟨rfl, sG'⟩
  rintro σ G6 ⟨rfl, s6⟩
  have hlt6 := s6 _ _ (s5 _ _ hlt4)
  have hdl6 := s6 _ _ (s5 _ _ hdl)
  have hdm6 := s6 _ _ hdm
  -- sure
  have dl_get : ∀ {G : Hp} {y : Str}, Same G6 G → y ∈ ys → DGet G dl (.str y) (some (oV (some (least (zs.map (·.2.2)) y)))) := fun {G y} s hy => by
    have := DGet.k (k := Sum.inr y) (s _ _ hdl6)
    rw [valV_dO hy] at this
    exact this
  have dm_get : ∀ {G : Hp} {y : Str}, Same G6 G → y ∈ ys → DGet G dm (.str y) (some (oV (mostO (zs.map (·.2.2)) (some y)))) := fun {G y} s hy => by
    have := DGet.k (k := Sum.inr y) (s _ _ hdm6)
    rw [valV_dO hy] at this
    exact this
  refine ⟨fun σ G => ∃ ls : Addr, σ = [some (.ref u), some (.int k), some (.ref l), x3, x4, some (.ref lt), some (.ref dl), some (.ref dm), some (oV (mostO (zs.map (·.2.2)) none)), some (.ref ls), none, none, none] ∧ Same G6 G ∧ G ls = some (.lst ((sureL ys (zs.map (·.2.2)) k).map V.str)), ?_, ?_⟩
  · refine ⟨_, rfl, lt, rfl, ⟨_, .inl (.inl hlt6)⟩, fun D hD => ?_⟩
    refine Lk.go_list (K := K) (a := lt) (xs := ys.map V.str) (fun i G => Same G6 G ∧ G D = some (.lst (((ys.take i).filter fun x => below (mostO (zs.map (·.2.2)) none) (some (least (zs.map (·.2.2)) x)) && decide ((ahead ys x (fun o => mostO (zs.map (·.2.2)) (some o)) (some (least (zs.map (·.2.2)) x)) : Int) < k)).map V.str))) ⟨Same.new hD, upd_same⟩ (fun i G _ h => .inl (.inl (h.1 _ _ hlt6))) ?_ ?_
    · rintro i v G hv ⟨sG, hG⟩
      obtain ⟨y, ey, rfl⟩ := yat hv
      have my := List.mem_of_getElem? ey
      rw [filt_take ey]
      have hfl := filt_len (ys := ys) (P := fun x => below (mostO (zs.map (·.2.2)) none) (some (least (zs.map (·.2.2)) x)) && decide ((ahead ys x (fun o => mostO (zs.map (·.2.2)) (some o)) (some (least (zs.map (·.2.2)) x)) : Int) < k)) (i := i)
      refine ⟨rfl, ?_⟩
      refine ⟨_, rfl, _, rfl, _, rfl, dl, _, rfl, dl_get sG my, mostO (zs.map (·.2.2)) none, some (least (zs.map (·.2.2)) y), rfl, _, rfl, ?_⟩
      cases hb : below (mostO (zs.map (·.2.2)) none) (some (least (zs.map (·.2.2)) y)) with
      | false =>
        refine (if_neg (by decide)).mpr ((if_neg (by decide)).mpr ⟨sG, ?_⟩)
        rw [Bool.false_and, if_neg (by decide), List.append_nil]
        exact hG
      | true =>
        refine (if_pos rfl).mpr ?_
        refine ⟨_, rfl, _, rfl, _, rfl, _, rfl, dl, _, rfl, dl_get sG my, y, dm, ys, fun o => mostO (zs.map (·.2.2)) (some o), some (least (zs.map (·.2.2)) y), rfl, sG _ _ hdm6, by omega, fun G' s' => ⟨_, rfl, _, _, rfl, rfl, _, rfl, ?_⟩⟩
        have hG' := s' _ _ hG
        rw [Bool.true_and]
        refine ite2 (fun h => ?_) (fun h => ?_)
        · refine ⟨_, rfl, _, hG', by rw [List.length_map, sizeLine_eq]; omega, Same.put (sG.trans s') hD, ?_⟩
          rw [upd_same, if_pos h, List.map_append]
          rfl
        · refine ⟨sG.trans s', ?_⟩
          rw [if_neg h, List.append_nil]
          exact hG'
    · rintro G ⟨sG, hG⟩
      rw [hyl', List.take_length] at hG
      exact ⟨D, rfl, sG, hG⟩
  rintro σ G7 ⟨ls, rfl, s7, hls⟩
  -- opened
  refine ⟨fun σ G => ∃ lo : Addr, σ = [some (.ref u), some (.int k), some (.ref l), x3, x4, some (.ref lt), some (.ref dl), some (.ref dm), some (oV (mostO (zs.map (·.2.2)) none)), some (.ref ls), some (.ref lo), none, none] ∧ Same G7 G ∧ G lo = some (.lst ((openL ys (zs.map (·.2.2)) k).map V.str)), ?_, ?_⟩
  · refine ⟨_, rfl, lt, rfl, ⟨_, .inl (.inl (s7 _ _ hlt6))⟩, fun D hD => ?_⟩
    refine Lk.go_list (K := K) (a := lt) (xs := ys.map V.str) (fun i G => Same G7 G ∧ G D = some (.lst (((ys.take i).filter fun x => !decide (x ∈ sureL ys (zs.map (·.2.2)) k) && decide ((ahead ys x (fun o => some (least (zs.map (·.2.2)) o)) (mostO (zs.map (·.2.2)) (some x)) : Int) < k)).map V.str))) ⟨Same.new hD, upd_same⟩ (fun i G _ h => .inl (.inl (h.1 _ _ (s7 _ _ hlt6)))) ?_ ?_
    · rintro i v G hv ⟨sG, hG⟩
      obtain ⟨y, ey, rfl⟩ := yat hv
      have my := List.mem_of_getElem? ey
      rw [filt_take ey]
      have hfl := filt_len (ys := ys) (P := fun x => !decide (x ∈ sureL ys (zs.map (·.2.2)) k) && decide ((ahead ys x (fun o => some (least (zs.map (·.2.2)) o)) (mostO (zs.map (·.2.2)) (some x)) : Int) < k)) (i := i)
      refine ⟨rfl, ?_⟩
      refine ⟨_, rfl, _, rfl, ls, _, rfl, .inl (.inl (.inl (sG _ _ hls))), rfl, ?_, _, rfl, ?_⟩
      · rw [List.all_eq_true]
        intro v hv
        obtain ⟨o, _, rfl⟩ := List.mem_map.mp hv
        rfl
      simp only [if_true]
      rw [inV_str]
      cases hb : !decide (y ∈ sureL ys (zs.map (·.2.2)) k) with
      | false =>
        refine (if_neg (by decide)).mpr ((if_neg (by decide)).mpr ⟨sG, ?_⟩)
        rw [Bool.false_and, if_neg (by decide), List.append_nil]
        exact hG
      | true =>
        refine (if_pos rfl).mpr ?_
        refine ⟨_, rfl, _, rfl, _, rfl, _, rfl, dm, _, rfl, dm_get (s7.trans sG) my, y, dl, ys, fun o => some (least (zs.map (·.2.2)) o), mostO (zs.map (·.2.2)) (some y), rfl, (s7.trans sG) _ _ hdl6, by omega, fun G' s' => ⟨_, rfl, _, _, rfl, rfl, _, rfl, ?_⟩⟩
        have hG' := s' _ _ hG
        rw [Bool.true_and]
        refine ite2 (fun h => ?_) (fun h => ?_)
        · refine ⟨_, rfl, _, hG', by rw [List.length_map, sizeLine_eq]; omega, Same.put (sG.trans s') hD, ?_⟩
          rw [upd_same, if_pos h, List.map_append]
          rfl
        · refine ⟨sG.trans s', ?_⟩
          rw [if_neg h, List.append_nil]
          exact hG'
    · rintro G ⟨sG, hG⟩
      rw [hyl', List.take_length] at hG
      exact ⟨D, rfl, sG, hG⟩
  rintro σ G8 ⟨lo, rfl, s8, hlo⟩
  refine ⟨_, rfl, ls, _, rfl, .inl ⟨.inl (.inl (s8 _ _ hls)), fun t1 ht1 => ?_⟩⟩
  have e1 := Same.new (o := .tup ((sureL ys (zs.map (·.2.2)) k).map V.str)) ht1
  refine ⟨_, rfl, lo, _, rfl, .inl ⟨.inl (.inl (e1 _ _ hlo)), fun t2 ht2 => ?_⟩⟩
  have e2 := Same.new (o := .tup ((openL ys (zs.map (·.2.2)) k).map V.str)) ht2
  refine ⟨sz2, fun t3 ht3 => ?_⟩
  have e3 := Same.new (o := .tup [.ref t1, .ref t2]) ht3
  refine k5 ys t3 t1 t2 _ hs hnd (fun x => (hmem x).trans (namesZ_mem zs x)) ?_ upd_same (e3 _ _ (e2 _ _ upd_same)) (e3 _ _ upd_same)
  exact sH2.trans (s3.trans (s4.trans (s5.trans (s6.trans (s7.trans (s8.trans (e1.trans (e2.trans e3))))))))
end
end Wq
set_option Elab.async false
set_option linter.all false
set_option maxRecDepth 100000
set_option maxHeartbeats 8000000
namespace Wq
open PySem PySem.Spec PyProof.Rows L2
open Kd (Pt Rw told most lm sumO least mostO lmost below ahead sureL openL enc leR leD)
/-! all but the pen -/
def rm (p : Addr) (H : Hp) : Hp := fun b => if b = p then none else H b
theorem rm_le {p : Addr} {H : Hp} : Same (rm p H) H := fun b o e => by
  unfold rm at e
  split at e
  · cases e
  · exact e
theorem rm_same {p : Addr} {H G : Hp} (s : Same H G) : Same (rm p H) (rm p G) := fun b o e => by
  unfold rm at *
  split at e
  · cases e
  · rename_i h
    rw [if_neg h]
    exact s _ _ e
theorem rm_draw {p : Addr} {H : Hp} {o : HO} : rm p (upd H p o) = rm p H := by
  funext b
  unfold rm
  split
  · rfl
  · rename_i h
    rw [upd_ne h]
theorem rm_get {p b : Addr} {H : Hp} {o : HO} (h : H b = some o) (n : b ≠ p) : rm p H b = some o := by
  unfold rm
  rw [if_neg n]
  exact h
theorem rm_of {p b : Addr} {H : Hp} {o : HO} (h : rm p H b = some o) : b ≠ p ∧ H b = some o := by
  unfold rm at h
  split at h
  · cases h
  · rename_i n
    exact ⟨n, h⟩
theorem rm_new {p b : Addr} {H : Hp} {o : HO} (n : H b = none) : Same (rm p H) (rm p (upd H b o)) := rm_same (Same.new n)
theorem PenAt.new {H : Hp} {p c b : Addr} {m : Nat} {o : HO} (h : PenAt H p c m) (n : H b = none) : PenAt (upd H b o) p c m := h.same (Same.new n)
theorem PenAt.nb {H : Hp} {p c b : Addr} {m : Nat} (h : PenAt H p c m) (n : H b = none) : b ≠ p := by
  obtain ⟨kvs, hk⟩ := h.dict
  intro e
  rw [e, hk] at n
  cases n
/-! a drawn part -/
def abc : List Str := ["a", "b", "c", "d", "e"]
theorem abc_ok : ∀ x ∈ abc, fText (.str x) = true ∧ x.cps.size = 1 ∧ ∀ c ∈ x.cps.toList, c < 128 := by decide +kernel
structure Tot (tot : List Rw) : Prop where
  nd : (tot.map (·.1)).Nodup
  ok : ∀ q ∈ tot, q.1 ∈ abc ∧ 1 ≤ q.2 ∧ q.2 ≤ 4
theorem Tot.few {tot : List Rw} (h : Tot tot) : tot.length ≤ 5 := by
  have := sub_len (m := abc) h.nd fun x hx => by
    obtain ⟨q, hq, rfl⟩ := List.mem_map.mp hx
    exact (h.ok q hq).1
  rw [List.length_map] at this
  exact this
def putR (tot : List Rw) (x : Str) (n : Int) : List Rw := if x ∈ tot.map (·.1) then tot.map (fun q => if q.1 = x then (q.1, n) else q) else tot ++ [(x, n)]
theorem putR_ent (tot : List Rw) (x : Str) (n : Int) : putK (tot.map ent) (Sum.inr x) (.int n) = (putR tot x n).map ent := by
  have e : ((tot.map ent).any fun kv => decide (kv.1 = Sum.inr x)) = decide (x ∈ tot.map (·.1)) := by
    rw [List.any_map]
    rw [Bool.eq_iff_iff, List.any_eq_true, decide_eq_true_eq, List.mem_map]
    constructor
    · rintro ⟨q, hq, h⟩
      exact ⟨q, hq, Sum.inr.inj (of_decide_eq_true h)⟩
    · rintro ⟨q, hq, h⟩
      exact ⟨q, hq, decide_eq_true (congrArg Sum.inr h)⟩
  unfold putK putR
  rw [e]
  by_cases h : x ∈ tot.map (·.1)
  · rw [if_pos (decide_eq_true h), if_pos h, List.map_map, List.map_map]
    refine List.map_congr_left fun q _ => ?_
    show (if (ent q).1 = Sum.inr x then ((ent q).1, V.int n) else ent q) = ent (if q.1 = x then (q.1, n) else q)
    by_cases hq : q.1 = x
    · rw [if_pos hq, if_pos (show (ent q).1 = Sum.inr x from congrArg Sum.inr hq)]
      rfl
    · rw [if_neg hq, if_neg (show ¬(ent q).1 = Sum.inr x from fun e => hq (Sum.inr.inj e))]
  · rw [if_neg (by rw [decide_eq_true_eq]; exact h), if_neg h, List.map_append]
    rfl
theorem putR_tot {tot : List Rw} {x : Str} {n : Int} (h : Tot tot) (hx : x ∈ abc) (h1 : 1 ≤ n) (h4 : n ≤ 4) : Tot (putR tot x n) := by
  unfold putR
  by_cases hm : x ∈ tot.map (·.1)
  · rw [if_pos hm]
    refine ⟨?_, fun q hq => ?_⟩
    · rw [List.map_map]
      have : ((fun q : Rw => q.1) ∘ fun q : Rw => if q.1 = x then (q.1, n) else q) = fun q => q.1 := by
        funext q
        show (if q.1 = x then (q.1, n) else q).1 = q.1
        split <;> rfl
      rw [this]
      exact h.nd
    · obtain ⟨r, hr, rfl⟩ := List.mem_map.mp hq
      have := h.ok r hr
      split
      · exact ⟨this.1, h1, h4⟩
      · exact this
  · rw [if_neg hm]
    refine ⟨?_, fun q hq => ?_⟩
    · rw [List.map_append]
      refine List.nodup_append.mpr ⟨h.nd, by simp, fun a ha b hb => ?_⟩
      rw [List.mem_singleton.mp hb]
      intro e
      have e : a = x := e
      exact hm (e ▸ ha)
    · rcases List.mem_append.mp hq with hq | hq
      · exact h.ok q hq
      · rw [List.mem_singleton.mp hq]
        exact ⟨hx, h1, h4⟩
theorem told_at {p : Pt} {q : Rw} (nd : (p.rows.map (·.1)).Nodup) (h : q ∈ p.rows) : told p q.1 = some q.2 := by
  cases e : told p q.1 with
  | none => exact absurd rfl (Kd.told_none e q h)
  | some m =>
    have h2 := Kd.told_mem e
    obtain ⟨i, hi, ei⟩ := List.mem_iff_getElem.mp h
    obtain ⟨j, hj, ej⟩ := List.mem_iff_getElem.mp h2
    have key : ∀ a b (ha : a < p.rows.length) (hb : b < p.rows.length), a < b → (p.rows[a]).1 ≠ (p.rows[b]).1 := fun a b ha hb hab => by
      have := (List.pairwise_iff_getElem.mp nd) a b (by rw [List.length_map]; exact ha) (by rw [List.length_map]; exact hb) hab
      rw [List.getElem_map, List.getElem_map] at this
      exact this
    rcases Nat.lt_trichotomy i j with hl | hl | hl
    · exact absurd (by rw [ei, ej]) (key i j hi hj hl)
    · subst hl
      rw [ei] at ej
      rw [ej]
    · exact absurd (by rw [ei, ej]) (key j i hj hi hl)
theorem RowsA.snoc {G : Hp} {ts : List Addr} {rs : List Rw} {a : Addr} {q : Rw} (h : RowsA G ts rs) (ha : G a = some (rwV q)) : RowsA G (ts ++ [a]) (rs ++ [q]) := by
  refine ⟨by rw [List.length_append, List.length_append, h.len]; rfl, fun i b r h1 h2 => ?_⟩
  by_cases hi : i < ts.length
  · rw [List.getElem?_append_left hi] at h1
    rw [List.getElem?_append_left (by rw [← h.len]; exact hi)] at h2
    exact h.at_ i b r h1 h2
  · rw [List.getElem?_append_right (by omega)] at h1
    rw [List.getElem?_append_right (by rw [← h.len]; omega), ← h.len] at h2
    have h0 : i - ts.length = 0 := by
      have := (List.getElem?_eq_some_iff.mp h1).1
      simp only [List.length_cons, List.length_nil] at this
      omega
    rw [h0] at h1 h2
    obtain rfl := Option.some.inj h1
    obtain rfl := Option.some.inj h2
    exact ha
structure LPt (p : Pt) : Prop where
  pt : PtOk p
  few : p.rows.length ≤ 5
  ok : ∀ q ∈ p.rows, q.1 ∈ abc ∧ 1 ≤ q.2 ∧ q.2 ≤ 4
theorem lpt_of {tot ss : List Rw} {wh : Bool} (h : Tot tot) (hp : ss.Perm tot) (hs : ss.Pairwise fun p q => leR p q = true) : LPt ⟨ss, wh⟩ := by
  have hf : ss.length ≤ 5 := by rw [hp.length_eq]; exact h.few
  refine ⟨⟨fun q hq => ?_, hs, ?_, Nat.le_trans hf (by decide)⟩, hf, fun q hq => h.ok q (hp.mem_iff.mp hq)⟩
  · obtain ⟨h1, h2, h3⟩ := h.ok q (hp.mem_iff.mp hq)
    obtain ⟨a1, a2, a3⟩ := abc_ok _ h1
    exact ⟨a1, by omega, a3, h2, by omega⟩
  · exact (hp.map _).nodup_iff.mpr h.nd
abbrev sLP : Stmt := top 19
abbrev NLP : List Str := ["_law_pen_here", "_law_totals", "_law_k", "_law_rows", "_law_many", "_law_text"]
theorem scLP : FnScope NLP ["_law_pen_here"] (defScope sLP) := ⟨rfl, rfl, rfl, by decide +kernel, rfl, by decide +kernel, by decide +kernel⟩
def spLP (K : PySem.W.Frag) : Sp := fun vs H Q _ => ∃ (p c : Addr) (m : Nat), vs = [.ref p] ∧ PenAt H p c m ∧ m ≤ 100000 ∧ ∀ (t : Addr) (G : Hp) (pt : Pt), PenAt G p c (m + 16) → Same (rm p H) (rm p G) → PrtV K (rm p G) (.ref t) (some pt) → LPt pt → Q (.ref t) G
section
variable {P : Program} {w : World} {K : PySem.W.Frag} {mg : Str → Option Value} {base : Heap}
theorem log_ok {n : Int} (h : n.natAbs < 2 ^ 60) : n.natAbs.log2 < 9000 := by
  by_cases h0 : n.natAbs = 0
  · rw [h0]
    decide
  · have := (Nat.log2_lt h0).mpr h
    omega
theorem ok_LP (D : DefAt K mg "_law_part" sLP) (T : Txt K mg) (TA : TxtA mg) (CD : Cl P w K mg base 1 "_law_draw" (spDraw K)) (CP : Cl P w K mg base 2 "_law_pick" (spPick K)) : Cl P w K mg base 3 "_law_part" (spLP K) := by
  refine cl_of D scLP (fun vs H Q E h => ?_) (fun _ _ _ _ _ _ us hl => match us, hl with | [_], _ => rfl) (fun f cdv A outer s H vs Q E hr h => ?_)
  · obtain ⟨p, c, m, rfl, _⟩ := h
    rfl
  obtain ⟨p, c, m, rfl, hP, hm, k⟩ := h
  have hU := hu_of hr
  refine ⟨_, pss_cons (ps_set (i := 1) scLP.nd rfl (Or.inr rfl) pe_dnewK)
(C8.pss_cut (ps_for PassesOwn.never rfl (pi_range1 rfl (by exact T.range) (pa_cons (pe_cl CD hr (by decide) rfl (pa_cons (pv 0) (pa_cons pe_int pa_nil))) pa_nil)) (pg_name (i := 2) scLP.nd rfl (Or.inl rfl))
(pss_one (ps_dput hU (pv 1) (pe_cl CP hr (by decide) rfl (pa_cons (pv 0) (pa_cons (pe_lst (pa_cons pe_str (pa_cons pe_str (pa_cons pe_str (pa_cons pe_str (pa_cons pe_str pa_nil)))))) pa_nil))) (pe_op op_add pe_int (pe_cl CD hr (by decide) rfl (pa_cons (pv 0) (pa_cons pe_int pa_nil)))) rfl)))
(C8.pss_cut (ps_setLc (i := 3) (own := [("_law_many", 4), ("_law_text", 5)]) (g := gTup K 2 (gCons (gName 4) (gCons (gName 5) gNil))) (tt := tYes) (by rfl) scLP.nd rfl rfl (sw_true rfl rfl rfl (by decide +kernel)) (pi_list (pe_callB (SDt.cr_sortD (hu64 hr)) (by rfl) (by exact TA.sorted) (by decide +kernel) (pa_cons (pe_lock (pe_lc (own := [("_law_text", 5)]) (g := gName 5) (tt := tYes) (by rfl) scLP.nd (pi_keys (pv 1)) (blkOk_by (own := [("_law_text", 5)]) (N := NLP) (sc := defScope sLP) (by decide +kernel)) (fun _ _ _ _ _ => (pg_name (i := 5) scLP.nd rfl (Or.inl rfl))) (fun _ _ _ _ _ => pts_nil) (fun _ _ _ _ _ => (pe_tup (pa_cons (pe_un un_neg (pe_dget hU (pv 1) (pv 5) (fun _ _ => rfl))) (pa_cons (pv 5) pa_nil)))))) pa_nil))) (blkOk_by (own := [("_law_many", 4), ("_law_text", 5)]) (N := NLP) (sc := defScope sLP) (by decide +kernel)) (fun _ _ _ _ _ => (pg_tup (by rfl) (pgs_cons (pg_name (i := 4) scLP.nd rfl (Or.inl rfl)) (pgs_cons (pg_name (i := 5) scLP.nd rfl (Or.inl rfl)) pgs_nil)))) (fun _ _ _ _ _ => pts_nil) (fun _ _ _ _ _ => (pe_tup (pa_cons (pv 5) (pa_cons (pe_un un_neg (pv 4)) pa_nil)))))
(pss_one (ps_ret (pe_tup (pa_cons (pe_callTy call_tuple_of (by rfl) (by exact T.tuple) (by decide +kernel) (pa_cons (pv 3) pa_nil)) (pa_cons (pe_cmpR op_eq (pe_cl CD hr (by decide) rfl (pa_cons (pv 0) (pa_cons pe_int pa_nil))) pe_int (nomark _)) pa_nil))))))), ?_⟩
  intro T0 hT0
  have nTp := hP.nb hT0
  have hP0 := hP.new (o := .dK []) hT0
  refine ⟨fun σ G => ∃ (tot : List Rw) (x2 : Option V), σ = [some (.ref p), some (.ref T0), x2, none, none, none] ∧ PenAt G p c (m + 12) ∧ Same (rm p H) (rm p G) ∧ G T0 = some (.dK (tot.map ent)) ∧ Tot tot, ?_, ?_⟩
  · refine ⟨_, rfl, p, c, m, 5, rfl, hP0, by omega, by decide, log_ok (by decide), fun v o a b hP1 => ⟨v, rfl, by omega, by omega, ?_⟩⟩
    have r1 : rm p (upd (upd H T0 (.dK [])) p o) = rm p (upd H T0 (.dK [])) := rm_draw
    refine for_range (lo := 0) (n := v.toNat) (fun i σ G => ∃ (tot : List Rw) (x2 : Option V), σ = [some (.ref p), some (.ref T0), x2, none, none, none] ∧ PenAt G p c (m + 1 + 2 * i) ∧ Same (rm p H) (rm p G) ∧ G T0 = some (.dK (tot.map ent)) ∧ Tot tot)
      ⟨[], none, rfl, hP1, by rw [r1]; exact rm_new hT0, by rw [upd_ne nTp, upd_same]; rfl, ⟨List.nodup_nil, fun q h => by cases h⟩⟩ ?_ ?_
    · rintro i σ G hi ⟨tot, x2, rfl, hp, sG, hG, hT⟩
      have hi5 : i < 5 := by omega
      refine ⟨_, rfl, p, c, _, 4, rfl, hp, by omega, by decide, log_ok (by decide), fun v1 o1 a1 b1 hp1 => ⟨_, _, rfl, rfl, ?_⟩⟩
      refine ⟨_, rfl, _, rfl, (by show 5 ≤ sizeLine; rw [sizeLine_eq]; decide), fun l hl => ?_⟩
      refine ⟨p, c, _, _, abc.map V.str, rfl, hp1.new hl, .lst (.inl (.inl upd_same)), by omega, by decide, by decide, fun j w o2 hj hp2 => ?_⟩
      rw [List.getElem?_map] at hj
      cases ej : abc[j]? with
      | none => rw [ej] at hj; cases hj
      | some x =>
      rw [ej] at hj
      obtain rfl := Option.some.inj hj
      have mx : x ∈ abc := List.mem_of_getElem? ej
      have hG1 : upd G p o1 T0 = some (.dK (tot.map ent)) := by rw [upd_ne nTp]; exact hG
      have hG2 : upd (upd G p o1) l (.lst (abc.map V.str)) T0 = some (.dK (tot.map ent)) := Same.new hl _ _ hG1
      have hG3 : upd (upd (upd G p o1) l (.lst (abc.map V.str))) p o2 T0 = some (.dK (tot.map ent)) := by rw [upd_ne nTp]; exact hG2
      have put := DPut.k (k := Sum.inr x) (v := .int (1 + v1)) hG3 (by have := hT.few; rw [List.length_map, sizeLine_eq]; omega)
      rw [putR_ent] at put
      refine ⟨T0, _, rfl, put, ?_⟩
      refine ⟨putR tot x (1 + v1), some (.int (0 + (i : Int))), rfl, ?_, ?_, upd_same, putR_tot hT mx (by omega) (by omega)⟩
      · refine PenAt.put (hp2.mono (by omega)) nTp.symm ?_
        exact ne_of hp2.cells.choose_spec hG3 (by intro z; cases z)
      · refine fun b o e => ?_
        obtain ⟨nbp, eH⟩ := rm_of e
        have nbT := ne_of_none eH hT0
        have g0 := (rm_of (sG _ _ e)).2
        refine rm_get ?_ nbp
        rw [upd_ne nbT, upd_ne nbp]
        exact Same.new hl _ _ (by rw [upd_ne nbp]; exact g0)
    · rintro σ G ⟨tot, x2, rfl, hp, sG, hG, hT⟩
      exact ⟨tot, x2, rfl, hp.mono (by omega), sG, hG, hT⟩
  rintro σ G1 ⟨tot, x2, rfl, hp, s1, hG, hT⟩
  have hfew := hT.few
  have hxs : ∀ q ∈ tot, fText (.str q.1) = true := fun q hq => (abc_ok _ (hT.ok q hq).1).1
  refine ⟨fun σ G => ∃ (lr : Addr) (as : List Addr) (ss : List Rw), σ = [some (.ref p), some (.ref T0), x2, some (.ref lr), none, none] ∧ Same G1 G ∧ G lr = some (.lst (as.map V.ref)) ∧ RowsA G as ss ∧ ss.Perm tot ∧ ss.Pairwise fun p q => leR p q = true, ?_, ?_⟩
  · refine ⟨T0, _, hG, trivial, fun od => ?_⟩
    have hf : upd G1 T0 (.frz od (.dK (tot.map ent))) T0 = some (.frz od (.dK (tot.map ent))) := upd_same
    refine ⟨_, rfl, T0, od, rfl, .inl ⟨_, hf, fun D hD => ?_⟩⟩
    generalize hF : upd G1 T0 (.frz od (.dK (tot.map ent))) = F at hf hD
    refine Lk.go_keys (d := T0) (o := od) (kvs := tot.map ent) (fun i G => ∃ ts : List Addr, Same F G ∧ G D = some (.lst (ts.map V.ref)) ∧ ToldA G ts (tot.take i)) ⟨[], Same.new hD, upd_same, ⟨rfl, fun i a q h => by cases h⟩⟩ (fun i G _ ⟨_, h, _⟩ => h _ _ hf) ?_ ?_
    · rintro i ky v G hv ⟨ts, sG, hD1, hT1⟩
      rw [List.getElem?_map] at hv
      cases eq : tot[i]? with
      | none => rw [eq] at hv; cases hv
      | some q =>
      rw [eq] at hv
      obtain ⟨e1, e2⟩ := Prod.mk.inj (Option.some.inj hv)
      subst e1 e2
      have hi : i < tot.length := (List.getElem?_eq_some_iff.mp eq).1
      refine ⟨rfl, ?_⟩
      simp only [tYes, if_true]
      have hval : valV (tot.map ent) (Sum.inr q.1) = some (V.int q.2) := by
        have h1 := valV_ent ⟨tot, true⟩ q.1
        rw [h1, told_at (p := ⟨tot, true⟩) hT.nd (List.mem_of_getElem? eq)]
        rfl
      have hg : DGet G T0 (V.str q.1) (some (.int q.2)) := .inl ⟨_, Sum.inr q.1, .inr ⟨od, sG _ _ hf⟩, rfl, hval.symm⟩
      refine ⟨_, rfl, _, rfl, T0, _, rfl, hg, _, rfl, _, rfl, (by show 2 ≤ sizeLine; rw [sizeLine_eq]; decide), fun t ht => ?_⟩
      have st := Same.new (o := .tup [.int (-q.2), .str q.1]) ht
      have nDt : D ≠ t := ne_of_none hD1 ht
      refine ⟨_, st _ _ hD1, ?_, ts ++ [t], ?_, ?_, ?_⟩
      · rw [List.length_map, hT1.len, List.length_take, sizeLine_eq]
        omega
      · exact Same.put (sG.trans st) hD
      · rw [upd_same, List.map_append]
        rfl
      · rw [List.take_add_one, eq]
        refine ToldA.snoc ⟨hT1.len, fun j b r h1 h2 => ?_⟩ ?_
        · have := hT1.at_ j b r h1 h2
          rw [upd_ne (ne_of this hD1 (by intro z; cases z))]
          exact st _ _ this
        · rw [upd_ne nDt.symm, upd_same]
          rfl
    · rintro G2 ⟨ts, s2, hD2, hT2⟩
      rw [List.length_map, List.take_length] at hT2
      have nDT : D ≠ T0 := (ne_of_none hf hD).symm
      refine ⟨s2 _ _ hf, ?_⟩
      have s3 : Same G1 (upd G2 T0 (.dK (tot.map ent))) := fun b o e => by
        by_cases hb : b = T0
        · subst hb
          rw [hG] at e
          rw [upd_same]
          exact e
        · rw [upd_ne hb]
          refine s2 _ _ ?_
          rw [← hF, upd_ne hb]
          exact e
      have hT3 : ToldA (upd G2 T0 (.dK (tot.map ent))) ts tot := ⟨hT2.len, fun j b r h1 h2 => by
        have := hT2.at_ j b r h1 h2
        rw [upd_ne (ne_of this (s2 _ _ hf) (by intro z; cases z))]
        exact this⟩
      have hD3 : upd G2 T0 (.dK (tot.map ent)) D = some (.lst (ts.map V.ref)) := by rw [upd_ne nDT]; exact hD2
      generalize upd G2 T0 (.dK (tot.map ent)) = G3 at s3 hT3 hD3
      obtain ⟨y1, y2, y3, y4, y5, y6⟩ := told_pre (K := K) hD3 hT3 (by omega)
      obtain ⟨ss, e1, e2, e3, _, elen, eat⟩ := told_post (K := K) hT3
      refine ⟨D, zipD ts tot, rfl, y1, y2, y3, y4, y5, y6, fun q hq => ?_⟩
      have sq := Same.new (o := .lst (((zipD ts tot).mergeSort (PySem.W.dataLe false (·.2))).map (·.1))) hq
      refine ⟨q, rfl, ⟨_, .inl (.inl upd_same)⟩, fun D5 hD5 => ?_⟩
      have hq5 : upd G3 q (.lst (((zipD ts tot).mergeSort (PySem.W.dataLe false (·.2))).map (·.1))) q = some (.lst (((zipD ts tot).mergeSort (PySem.W.dataLe false (·.2))).map (·.1))) := upd_same
      generalize hus : ((zipD ts tot).mergeSort (PySem.W.dataLe false (·.2))).map (·.1) = us at hq5 hD5 elen eat sq
      have hsl : ss.length ≤ 5 := by rw [e2.length_eq]; exact hfew
      refine Lk.go_list (K := K) (a := q) (xs := us) (fun i G => ∃ as : List Addr, Same (upd G3 q (.lst us)) G ∧ G D5 = some (.lst (as.map V.ref)) ∧ RowsA G as (ss.take i)) ⟨[], Same.new hD5, upd_same, ⟨rfl, fun i a q h => by cases h⟩⟩ (fun i G _ ⟨_, h, _⟩ => .inl (.inl (h _ _ hq5))) ?_ ?_
      · rintro i v G hv ⟨as, sG, hG5, hR⟩
        have hi : i < ss.length := by rw [← elen]; exact (List.getElem?_eq_some_iff.mp hv).1
        have es : ss[i]? = some ss[i] := List.getElem?_eq_getElem hi
        obtain ⟨t, rfl, ht⟩ := eat i v _ hv es
        have ht5 := sG _ _ (sq _ _ ht)
        refine ⟨t, _, rfl, .inl (.inl ht5), rfl, _, _, rfl, _, _, rfl, rfl, rfl, ?_⟩
        simp only [tYes, if_true]
        refine ⟨_, rfl, _, rfl, _, rfl, (by show 2 ≤ sizeLine; rw [sizeLine_eq]; decide), fun t2 ht2 => ?_⟩
        have e0 : (-(-(ss[i]).2) : Int) = (ss[i]).2 := Int.neg_neg _
        have st := Same.new (o := .tup [.str (ss[i]).1, .int (-(-(ss[i]).2))]) ht2
        have nDt : D5 ≠ t2 := ne_of_none hG5 ht2
        refine ⟨_, st _ _ hG5, ?_, as ++ [t2], ?_, ?_, ?_⟩
        · rw [List.length_map, hR.len, List.length_take, sizeLine_eq]
          omega
        · exact Same.put (sG.trans st) hD5
        · rw [upd_same, List.map_append]
          rfl
        · rw [List.take_add_one, es]
          refine RowsA.snoc ⟨hR.len, fun j b r h1 h2 => ?_⟩ ?_
          · have := hR.at_ j b r h1 h2
            rw [upd_ne (ne_of this hG5 (by intro z; cases z))]
            exact st _ _ this
          · rw [upd_ne nDt.symm, upd_same]
            show some (HO.tup [.str (ss[i]).1, .int (-(-(ss[i]).2))]) = some (rwV ss[i])
            rw [e0]
            rfl
      · rintro G ⟨as, sG, hG5, hR⟩
        rw [elen, List.take_length] at hR
        exact ⟨D5, as, ss, rfl, s3.trans (sq.trans sG), hG5, hR, e2, e3⟩
  rintro σ G2 ⟨lr, as, ss, rfl, s2, hlr, hR, hp2, hs2⟩
  have hP2 := hp.same s2
  refine ⟨_, rfl, lr, _, rfl, .inl ⟨.inl (.inl hlr), fun t1 ht1 => ?_⟩⟩
  have q1 := Same.new (o := .tup (as.map V.ref)) ht1
  refine ⟨_, rfl, p, c, _, 2, rfl, hP2.new ht1, by omega, by decide, log_ok (by decide), fun v o a b hP3 => ⟨rfl, (by show 2 ≤ sizeLine; rw [sizeLine_eq]; decide), fun t3 ht3 => ?_⟩⟩
  have n1 := hP2.nb ht1
  have n3 := hP3.nb ht3
  have l1 : Same (rm p G2) (rm p (upd (upd (upd G2 t1 (.tup (as.map V.ref))) p o) t3 (.tup [.ref t1, .bl (decide (V.int v = V.int 0))]))) := by
    refine (rm_new (p := p) (o := .tup (as.map V.ref)) ht1).trans ?_
    rw [← rm_draw (p := p) (o := o)]
    exact rm_new ht3
  have ht1' : rm p (upd (upd (upd G2 t1 (.tup (as.map V.ref))) p o) t3 (.tup [.ref t1, .bl (decide (V.int v = V.int 0))])) t1 = some (.tup (as.map V.ref)) := by
    refine rm_get ?_ n1
    refine Same.new ht3 _ _ ?_
    rw [upd_ne n1, upd_same]
  have hLp := lpt_of (wh := decide (V.int v = V.int 0)) hT hp2 hs2
  have hR2 : RowsA (rm p G2) as ss := ⟨hR.len, fun i b r h1 h2 => rm_get (hR.at_ i b r h1 h2) (by
    obtain ⟨kvs, hk⟩ := hP2.dict
    exact ne_of (hR.at_ i b r h1 h2) hk (by intro z; cases z))⟩
  refine k t3 _ ⟨ss, decide (V.int v = V.int 0)⟩ ((hP3.new ht3).mono (by omega)) (s1.trans ((rm_same s2).trans l1)) (.ok (as := as) (rm_get upd_same n3) ht1' (hR2.same l1) hLp.pt) hLp
end
end Wq
set_option Elab.async false
set_option linter.all false
set_option maxRecDepth 100000
set_option maxHeartbeats 8000000
namespace Wq
open PySem PySem.Spec PyProof.Rows L2
open Kd (Pt Rw told most lm sumO least mostO lmost below ahead sureL openL enc leR leD)
/-! the most that a part can have -/
abbrev sLM : Stmt := top 20
abbrev NLM : List Str := ["_law_part_here", "_law_text", "_law_rows", "_law_whole", "_law_told_here", "_law_one", "_law_many"]
theorem scLM : FnScope NLM ["_law_part_here", "_law_text"] (defScope sLM) := ⟨rfl, rfl, rfl, by decide +kernel, rfl, by decide +kernel, by decide +kernel⟩
/-- a right part at a place -/
structure PtA (H : Hp) (t : Addr) (p : Pt) : Prop where
  ex : ∃ (r : Addr) (as : List Addr), H t = some (.tup [.ref r, .bl p.whole]) ∧ H r = some (.tup (as.map V.ref)) ∧ RowsA H as p.rows
  ok : LPt p
theorem PtA.same {H G : Hp} {t : Addr} {p : Pt} (h : PtA H t p) (s : Same H G) : PtA G t p := by
  obtain ⟨r, as, h1, h2, h3⟩ := h.ex
  exact ⟨⟨r, as, s _ _ h1, s _ _ h2, h3.same s⟩, h.ok⟩
theorem PtA.prt {K : PySem.W.Frag} {H : Hp} {t : Addr} {p : Pt} (h : PtA H t p) : PrtV K H (.ref t) (some p) := by
  obtain ⟨r, as, h1, h2, h3⟩ := h.ex
  exact .ok h1 h2 h3 h.ok.pt
theorem PtA.of {K : PySem.W.Frag} {H : Hp} {t : Addr} {p : Pt} (h : PrtV K H (.ref t) (some p)) (ok : LPt p) : PtA H t p := by
  cases h with
  | ok h1 h2 h3 h4 => exact ⟨⟨_, _, h1, h2, h3⟩, ok⟩
def spLM : Sp := fun vs H Q _ => ∃ (t : Addr) (p : Pt) (x : Str), vs = [.ref t, .str x] ∧ PtA H t p ∧ ∀ G, Same H G → Q (.int (lm p x)) G
def toldL (p : Pt) (x : Str) : List Int := (p.rows.filter fun q => decide (q.1 = x)).map (·.2)
theorem toldL_none {p : Pt} {x : Str} : toldL p x = [] ↔ told p x = none := by
  unfold toldL told
  rw [← List.head?_filter]
  cases p.rows.filter fun q => decide (q.1 = x) <;> simp
theorem toldL_some {p : Pt} {x : Str} {m : Int} (h : told p x = some m) : ∃ l, toldL p x = m :: l := by
  unfold toldL told at *
  rw [← List.head?_filter] at h
  cases e : p.rows.filter fun q => decide (q.1 = x) with
  | nil => rw [e] at h; cases h
  | cons q l =>
    rw [e] at h
    have : q.2 = m := Option.some.inj h
    exact ⟨l.map (·.2), by rw [List.map_cons, this]⟩
theorem ints_dp {K : PySem.W.Frag} {H : Hp} : ∀ ns : List Int, DpAll K H (ns.map V.int) (ns.map PyData.int)
  | [] => .nil
  | n :: ns => .cons (.int n) (ints_dp ns)
theorem ints_nil (ns : List Int) : PyData.eqv (.list (ns.map PyData.int)) (.list []) = decide (ns = []) := by
  cases ns <;> simp [PyData.eqv, PyData.eqvAll]
def encT (q : Rw) : PyData := .tuple [.str q.1, .int q.2]
theorem encT_nil (rs : List Rw) : PyData.eqv (.tuple (rs.map encT)) (.tuple []) = decide (rs = []) := by
  cases rs <;> simp [PyData.eqv, PyData.eqvAll]
theorem encT_lay : ∀ (rs : List Rw), (∀ q ∈ rs, PyData.strOk q.1 = true) → PyData.canLayAll0 (rs.map encT) = true ∧ PyData.depthAll (rs.map encT) ≤ 1
  | [], _ => ⟨by simp [PyData.canLayAll0], by simp [PyData.depthAll]⟩
  | q :: rs, h => by
    obtain ⟨h1, h2⟩ := encT_lay rs fun r hr => h r (List.mem_cons_of_mem _ hr)
    have := h q List.mem_cons_self
    constructor
    · simp [PyData.canLayAll0, encT, PyData.canLay0, this, h1]
    · simp only [List.map_cons, PyData.depthAll, encT, PyData.depth]
      omega
theorem encT_shaped {rs : List Rw} (h : ∀ q ∈ rs, PyData.strOk q.1 = true) : SeqAt.shaped (.tuple (rs.map encT)) = true := by
  obtain ⟨h1, h2⟩ := encT_lay rs h
  unfold SeqAt.shaped
  rw [PyData.canLay0, h1, Bool.true_and]
  refine decide_eq_true ?_
  rw [PyData.depth]
  omega
theorem rowsDp {K : PySem.W.Frag} {H : Hp} : ∀ {as : List Addr} {rs : List Rw}, RowsA H as rs → DpAll K H (as.map V.ref) (rs.map encT)
  | [], [], _ => .nil
  | [], _ :: _, h => by have := h.len; cases this
  | _ :: _, [], h => by have := h.len; cases this
  | a :: as, q :: rs, h => .cons (.tup (.inl (.inl (h.at_ 0 a q rfl rfl))) (.cons (.str _) (.cons (.int _) .nil))) (rowsDp ⟨Nat.succ.inj h.len, fun i a q h1 h2 => h.at_ (i + 1) a q h1 h2⟩)
section
variable {P : Program} {w : World} {K : PySem.W.Frag} {mg : Str → Option Value} {base : Heap}
theorem ok_LM (D : DefAt K mg "_law_most" sLM) (T : Txt K mg) : Cl P w K mg base 1 "_law_most" spLM := by
  refine cl_of D scLM (fun vs H Q E h => ?_) (fun _ _ _ _ _ _ us hl => match us, hl with | [_, _], _ => rfl) (fun f cdv A outer s H vs Q E hr h => ?_)
  · obtain ⟨t, p, x, rfl, _⟩ := h
    rfl
  obtain ⟨t, p, x, rfl, hA, k⟩ := h
  refine ⟨_, pss_cons (ps_asg (pv 0) (pg_tup (by rfl) (pgs_cons (pg_name (i := 2) scLM.nd rfl (Or.inl rfl)) (pgs_cons (pg_name (i := 3) scLM.nd rfl (Or.inl rfl)) pgs_nil))))
(C8.pss_cut (ps_setLc (i := 4) (own := [("_law_one", 5), ("_law_many", 6)]) (g := gTup K 2 (gCons (gName 5) (gCons (gName 6) gNil))) (by rfl) scLM.nd rfl rfl (sw_true rfl rfl rfl (by decide +kernel)) (pi_tup (pv 2)) (blkOk_by (own := [("_law_one", 5), ("_law_many", 6)]) (N := NLM) (sc := defScope sLM) (by decide +kernel)) (fun _ _ _ _ _ => (pg_tup (by rfl) (pgs_cons (pg_name (i := 5) scLM.nd rfl (Or.inl rfl)) (pgs_cons (pg_name (i := 6) scLM.nd rfl (Or.inl rfl)) pgs_nil)))) (fun _ _ _ _ _ => (pts_one (pt_cmpR op_eq (pv 5) (pv 1) (nomark _)))) (fun _ _ _ _ _ => (pv 6)))
(C8.pss_cut (ps_if (PW.pt (pw_or (pt_cmpR (op_neD (hu64 hr)) (pv 4) (pe_lst pa_nil) (nomark _)) (pw_or1 (pt_val (pv 3)))))
(pss_one (ps_ret (pe_ix ix_list (pe_op op_cat (pv 4) (pe_lst (pa_cons pe_int pa_nil))) pe_int (fun _ _ => rfl))))
pss_nil)
(pss_cons (ps_if (pt_cmpR (op_eqD (hu64 hr)) (pv 2) (pe_tup pa_nil) (nomark _))
(pss_one (ps_ret pe_int))
pss_nil)
(pss_one (ps_ret (pe_op op_sub (pe_ix ix_tup (pe_ix ix_tup (pv 2) (pe_un un_neg pe_int) (fun _ _ => rfl)) pe_int (fun _ _ => rfl)) (pe_callTy call_int1 (by rfl) (by exact T.int) PyProof.Rows.boot_int (pa_cons (pe_cmpR op_lt_str (pv 1) (pe_ix ix_tup (pe_ix ix_tup (pv 2) (pe_un un_neg pe_int) (fun _ _ => rfl)) pe_int (fun _ _ => rfl)) (nomark _)) pa_nil)))))))), ?_⟩
  obtain ⟨r, as, h1, h2, h3⟩ := hA.ex
  have hok : ∀ q ∈ p.rows, PyData.strOk q.1 = true := fun q hq => strOk_of (hA.ok.pt.ok q hq).2.2.1
  have hfew := hA.ok.few
  refine ⟨_, rfl, t, _, rfl, .inl (.inl h1), rfl, _, _, rfl, _, _, rfl, rfl, ?_⟩
  have hln : (as.map V.ref).length = p.rows.length := by rw [List.length_map, h3.len]
  refine ⟨fun σ G => ∃ lt : Addr, σ = [some (.ref t), some (.str x), some (.ref r), some (.bl p.whole), some (.ref lt), none, none] ∧ Same H G ∧ G lt = some (.lst ((toldL p x).map V.int)), ?_, ?_⟩
  · refine ⟨_, rfl, r, rfl, ⟨_, .inl (.inl h2)⟩, fun D hD => ?_⟩
    refine lc_tup (K := K) (a := r) (xs := as.map V.ref) (fun i G => Same H G ∧ G D = some (.lst ((((p.rows.take i).filter fun q => decide (q.1 = x)).map (·.2)).map V.int))) ⟨Same.new hD, upd_same⟩ (fun i G _ h => .inl (.inl (h.1 _ _ h2))) ?_ ?_
    · rintro i v G hv ⟨sG, hG⟩
      obtain ⟨a, q, rfl, hq, ha⟩ := h3.get hv
      have hi : i < p.rows.length := (List.getElem?_eq_some_iff.mp hq).1
      have hfl : ((p.rows.take i).filter fun q => decide (q.1 = x)).length ≤ 5 := by
        have := List.length_filter_le (fun q : Rw => decide (q.1 = x)) (p.rows.take i)
        rw [List.length_take] at this
        omega
      refine ⟨a, _, rfl, .inl (.inl (sG _ _ ha)), rfl, _, _, rfl, _, _, rfl, rfl, rfl, ?_⟩
      rw [show (p.rows.take (i + 1)).filter (fun q => decide (q.1 = x)) = (p.rows.take i).filter (fun q => decide (q.1 = x)) ++ if decide (q.1 = x) = true then [q] else [] by
        rw [List.take_add_one, hq, List.filter_append]
        congr 1
        simp only [Option.toList, List.filter_cons, List.filter_nil]]
      refine ⟨_, rfl, _, rfl, rfl, _, rfl, ?_⟩
      have e1 : decide (V.str q.1 = V.str x) = decide (q.1 = x) := by
        by_cases h : q.1 = x <;> simp [h]
      rw [e1]
      refine ite2 (fun h => ?_) (fun h => ?_)
      · refine ⟨_, rfl, _, hG, by rw [List.length_map, List.length_map, sizeLine_eq]; omega, Same.put sG hD, ?_⟩
        rw [upd_same, if_pos h, List.map_append, List.map_append]
        rfl
      · refine ⟨sG, ?_⟩
        rw [if_neg h, List.append_nil]
        exact hG
    · rintro G ⟨sG, hG⟩
      rw [hln, List.take_length] at hG
      exact ⟨D, rfl, sG, hG⟩
  rintro σ G1 ⟨lt, rfl, s1, hlt⟩
  have htl : (toldL p x).length ≤ 5 := by
    unfold toldL
    rw [List.length_map]
    have := List.length_filter_le (fun q : Rw => decide (q.1 = x)) p.rows
    omega
  refine ⟨fun σ G => σ = [some (.ref t), some (.str x), some (.ref r), some (.bl p.whole), some (.ref lt), none, none] ∧ Same G1 G ∧ told p x = none ∧ p.whole = false, ?_, ?_⟩
  · have out : ∀ G, Same G1 G → (toldL p x ≠ [] ∨ p.whole = true) → ∃ j, (toldL p x ++ [0])[0]? = some j ∧ Q (.int j) = Q (.int (lm p x)) := fun G s h => by
      cases e : told p x with
      | some m =>
        obtain ⟨l, el⟩ := toldL_some e
        refine ⟨m, by rw [el]; rfl, ?_⟩
        unfold lm
        rw [e]
      | none =>
        have el := toldL_none.mpr e
        have hw : p.whole = true := h.resolve_left fun z => z el
        refine ⟨0, by rw [el]; rfl, ?_⟩
        unfold lm
        rw [e, hw]
        rfl
    refine ⟨_, rfl, (by show 0 ≤ sizeLine; exact Nat.zero_le _), fun l0 hl0 => ?_⟩
    have s2 := Same.new (o := .lst []) hl0
    have hlt2 := s2 _ _ hlt
    refine ⟨.list ((toldL p x).map PyData.int), .list [], .lst (.inl (.inl hlt2)) (ints_dp _), .lst (.inl (.inl upd_same)) .nil, PySem.W.shaped_ints _, PySem.W.shaped_ints [], _, rfl, ?_⟩
    rw [ints_nil]
    generalize upd G1 l0 (.lst []) = G2 at s2 hlt2
    refine ite2 (fun h => ?_) (fun h => ?_)
    · have hne : toldL p x ≠ [] := fun z => by rw [decide_eq_true z] at h; exact absurd h (by decide)
      obtain ⟨j, hj, hQ⟩ := out G2 s2 (.inl hne)
      refine ⟨_, rfl, (by show 1 ≤ sizeLine; rw [sizeLine_eq]; decide), fun l1 hl1 => ?_⟩
      have s3 := Same.new (o := .lst [.int 0]) hl1
      refine ⟨lt, l1, _, _, rfl, rfl, s3 _ _ hlt2, upd_same, by rw [List.length_map, sizeLine_eq]; show _ + 1 ≤ _; omega, fun l2 hl2 => ?_⟩
      refine ⟨l2, _, 0, .int j, rfl, rfl, .inl (.inl upd_same), ?_, ?_⟩
      · refine atI_nat (j := 0) ?_
        have : ((toldL p x).map V.int ++ [V.int 0]) = (toldL p x ++ [0]).map V.int := by rw [List.map_append]; rfl
        rw [this, List.getElem?_map, hj]
        rfl
      · show Q (.int j) _
        rw [hQ]
        exact k _ (s1.trans (s2.trans (s3.trans (Same.new hl2))))
    · have hnil : toldL p x = [] := by
        by_cases z : toldL p x = []
        · exact z
        · rw [decide_eq_false z] at h
          exact absurd rfl h
      refine ⟨_, rfl, _, rfl, ?_⟩
      refine ite2 (fun hw => ?_) (fun hw => ?_)
      · obtain ⟨j, hj, hQ⟩ := out G2 s2 (.inr hw)
        refine ⟨_, rfl, (by show 1 ≤ sizeLine; rw [sizeLine_eq]; decide), fun l1 hl1 => ?_⟩
        have s3 := Same.new (o := .lst [.int 0]) hl1
        refine ⟨lt, l1, _, _, rfl, rfl, s3 _ _ hlt2, upd_same, by rw [List.length_map, sizeLine_eq]; show _ + 1 ≤ _; omega, fun l2 hl2 => ?_⟩
        refine ⟨l2, _, 0, .int j, rfl, rfl, .inl (.inl upd_same), ?_, ?_⟩
        · refine atI_nat (j := 0) ?_
          have : ((toldL p x).map V.int ++ [V.int 0]) = (toldL p x ++ [0]).map V.int := by rw [List.map_append]; rfl
          rw [this, List.getElem?_map, hj]
          rfl
        · show Q (.int j) _
          rw [hQ]
          exact k _ (s1.trans (s2.trans (s3.trans (Same.new hl2))))
      · exact ⟨rfl, s2, toldL_none.mp hnil, eq_false_of_ne_true hw⟩
  rintro σ G2 ⟨rfl, s2, hn, hw⟩
  have s12 := s1.trans s2
  have elm : lm p x = match p.rows.getLast? with
      | none => 99
      | some r => r.2 - (if Kd.lt x r.1 then 1 else 0) := by
    unfold lm
    rw [hn, hw]
    rfl
  refine ⟨_, rfl, (by show 0 ≤ sizeLine; exact Nat.zero_le _), fun t0 ht0 => ?_⟩
  have s3 := Same.new (o := .tup []) ht0
  have s123 := s12.trans s3
  refine ⟨.tuple (p.rows.map encT), .tuple [], .tup (.inl (.inl (s123 _ _ h2))) (rowsDp (h3.same s123)), .tup (.inl (.inl upd_same)) .nil, encT_shaped hok, encT_shaped (rs := []) (fun q h => by cases h), _, rfl, ?_⟩
  rw [encT_nil]
  generalize upd G2 t0 (.tup []) = G3 at s3 s123
  refine ite2 (fun h => ?_) (fun h => ?_)
  · have h0 : p.rows = [] := of_decide_eq_true h
    have := k _ s123
    rw [elm, h0] at this
    exact this
  · have h0 : p.rows ≠ [] := fun z => h (decide_eq_true z)
    have hp : p.rows.length - 1 < p.rows.length := by
      have := List.length_pos_iff.mpr h0
      omega
    have eq : p.rows[p.rows.length - 1]? = some p.rows[p.rows.length - 1] := List.getElem?_eq_getElem hp
    obtain ⟨a, ha⟩ : ∃ a, as[p.rows.length - 1]? = some a := ⟨as[p.rows.length - 1]'(by rw [h3.len]; exact hp), List.getElem?_eq_getElem _⟩
    have hav := s123 _ _ (h3.at_ _ _ _ ha eq)
    have hat : atI (as.map V.ref) (-1) = some (.ref a) := by
      unfold atI ixN
      rw [hln, if_neg (by decide), if_pos (by omega)]
      show (as.map V.ref)[((-1 : Int) + (p.rows.length : Int)).toNat]? = _
      rw [show ((-1 : Int) + (p.rows.length : Int)).toNat = p.rows.length - 1 by omega, List.getElem?_map, ha]
      rfl
    have h2' := s123 _ _ h2
    generalize p.rows[p.rows.length - 1] = q at eq hav
    refine ⟨_, rfl, 1, rfl, r, _, (-1 : Int), .ref a, rfl, rfl, .inl (.inl h2'), hat, a, _, 1, .int q.2, rfl, rfl, .inl (.inl hav), rfl, ?_⟩
    refine ⟨_, rfl, _, rfl, 1, rfl, r, _, (-1 : Int), .ref a, rfl, rfl, .inl (.inl h2'), hat, a, _, 0, .str q.1, rfl, rfl, .inl (.inl hav), rfl, _, _, rfl, rfl, .inr ⟨_, rfl, _, _, rfl, rfl, ?_⟩⟩
    have := k _ s123
    rw [elm, List.getLast?_eq_getElem?, eq] at this
    exact this
end
end Wq
set_option Elab.async false
set_option linter.all false
set_option maxRecDepth 100000
set_option maxHeartbeats 8000000
namespace Wq
open PySem PySem.Spec PyProof.Rows L2
open Kd (Pt Rw told most lm sumO least mostO lmost below ahead sureL openL enc leR leD)
/-! the law's bounds -/
abbrev sLW : Stmt := top 21
abbrev NLW : List Str := ["_law_parts", "_law_text", "_law_pool", "_law_least", "_law_rows", "_law_whole", "_law_name", "_law_many", "_law_most_here", "_law_one", "_law_part_here"]
theorem scLW : FnScope NLW ["_law_parts", "_law_text", "_law_pool"] (defScope sLW) := ⟨rfl, rfl, rfl, by decide +kernel, rfl, by decide +kernel, by decide +kernel⟩
abbrev Lz := Addr × Pt
structure LsA (H : Hp) (l : Addr) (zs : List Lz) : Prop where
  lst : H l = some (.lst (zs.map fun z => V.ref z.1))
  at_ : ∀ z ∈ zs, PtA H z.1 z.2
theorem LsA.same {H G : Hp} {l : Addr} {zs : List Lz} (h : LsA H l zs) (s : Same H G) : LsA G l zs := ⟨s _ _ h.lst, fun z hz => (h.at_ z hz).same s⟩
theorem zat {zs : List Lz} {i : Nat} {v : V} (h : (zs.map fun z => V.ref z.1)[i]? = some v) : ∃ z, zs[i]? = some z ∧ v = .ref z.1 ∧ z ∈ zs := by
  rw [List.getElem?_map] at h
  cases e : zs[i]? with
  | none => rw [e] at h; cases h
  | some z =>
    rw [e] at h
    exact ⟨z, rfl, (Option.some.inj h).symm, List.mem_of_getElem? e⟩
theorem yat {ys : List Str} {i : Nat} {v : V} (h : (ys.map V.str)[i]? = some v) : ∃ y, ys[i]? = some y ∧ v = .str y := by
  rw [List.getElem?_map] at h
  cases e : ys[i]? with
  | none => rw [e] at h; cases h
  | some y =>
    rw [e] at h
    exact ⟨y, rfl, (Option.some.inj h).symm⟩
/-- pairs of a text and a number -/
structure PrA (H : Hp) (ts : List Addr) (ys : List Str) (f : Str → Int) : Prop where
  len : ts.length = ys.length
  at_ : ∀ (i : Nat) (t : Addr) (y : Str), ts[i]? = some t → ys[i]? = some y → H t = some (.tup [.str y, .int (f y)])
theorem PrA.same {H G : Hp} {ts : List Addr} {ys : List Str} {f : Str → Int} (h : PrA H ts ys f) (s : Same H G) : PrA G ts ys f := ⟨h.len, fun i a q h1 h2 => s _ _ (h.at_ i a q h1 h2)⟩
theorem PrA.snoc {G : Hp} {ts : List Addr} {ys : List Str} {f : Str → Int} {a : Addr} {y : Str} (h : PrA G ts ys f) (ha : G a = some (.tup [.str y, .int (f y)])) : PrA G (ts ++ [a]) (ys ++ [y]) f := by
  refine ⟨by rw [List.length_append, List.length_append, h.len]; rfl, fun i b r h1 h2 => ?_⟩
  by_cases hi : i < ts.length
  · rw [List.getElem?_append_left hi] at h1
    rw [List.getElem?_append_left (by rw [← h.len]; exact hi)] at h2
    exact h.at_ i b r h1 h2
  · rw [List.getElem?_append_right (by omega)] at h1
    rw [List.getElem?_append_right (by rw [← h.len]; omega), ← h.len] at h2
    have h0 : i - ts.length = 0 := by
      have := (List.getElem?_eq_some_iff.mp h1).1
      simp only [List.length_cons, List.length_nil] at this
      omega
    rw [h0] at h1 h2
    obtain rfl := Option.some.inj h1
    obtain rfl := Option.some.inj h2
    exact ha
/-- one more pair, while a list grows -/
theorem PrA.step {G : Hp} {ts : List Addr} {ys : List Str} {f : Str → Int} {D t : Addr} {y : Str} {us us' : List V} {v : Int} (h : PrA G ts ys f) (hD : G D = some (.lst us)) (ht : G t = none) (e : v = f y) :
    PrA (upd (upd G t (.tup [.str y, .int v])) D (.lst us')) (ts ++ [t]) (ys ++ [y]) f := by
  refine PrA.snoc ⟨h.len, fun j b r h1 h2 => ?_⟩ ?_
  · have := h.at_ j b r h1 h2
    rw [upd_ne (ne_of this hD (by intro z; cases z))]
    exact Same.new ht _ _ this
  · rw [upd_ne (ne_of_none hD ht).symm, upd_same, e]
theorem paired_of {K : PySem.W.Frag} {H : Hp} {f : Str → Int} : ∀ {ts : List Addr} {ys : List Str}, PrA H ts ys f → Paired (fun (p : Addr) (kv : Key × V) => SqT K H p [kV kv.1, kv.2]) ts (dO ys fun y => .int (f y))
  | [], [], _ => .nil
  | [], _ :: _, h => by have := h.len; cases this
  | _ :: _, [], h => by have := h.len; cases this
  | t :: ts, y :: ys, h => .cons (.inl (.inl (h.at_ 0 t y rfl rfl))) (paired_of ⟨Nat.succ.inj h.len, fun i a q h1 h2 => h.at_ (i + 1) a q h1 h2⟩)
theorem merge_dO {f : Str → V} {ys : List Str} (nd : ys.Nodup) : mergeK [] (dO ys f) = dO ys f := by
  have key : ∀ i, i ≤ ys.length → (dO (ys.take i) f).foldl (fun acc kv => putK acc kv.1 kv.2) [] = dO (ys.take i) f := by
    intro i
    induction i with
    | zero => intro _; rfl
    | succ i ih =>
      intro hi
      have e : ys[i]? = some ys[i] := List.getElem?_eq_getElem hi
      have h2 := dO_put (f := f) nd e
      have e3 : dO (ys.take (i + 1)) f = dO (ys.take i) f ++ [(Sum.inr ys[i], f ys[i])] := by
        unfold dO
        rw [List.take_add_one, e, List.map_append]
        rfl
      rw [e3, List.foldl_append, ih (by omega)]
      show putK (dO (ys.take i) f) (Sum.inr ys[i]) (f ys[i]) = _
      rw [h2, e3]
  have := key ys.length (Nat.le_refl _)
  rw [List.take_length] at this
  exact this
theorem dO_set {ys : List Str} {f : Str → V} {y : Str} {v : V} (h : y ∈ ys) : putK (dO ys f) (Sum.inr y) v = dO ys fun z => if z = y then v else f z := by
  unfold putK dO
  rw [if_pos]
  · rw [List.map_map]
    refine List.map_congr_left fun z _ => ?_
    show (if (Sum.inr z : Key) = Sum.inr y then (Sum.inr z, v) else (Sum.inr z, f z)) = (Sum.inr z, if z = y then v else f z)
    by_cases e : z = y
    · rw [if_pos e, if_pos (congrArg Sum.inr e)]
    · rw [if_neg e, if_neg (fun e2 => e (Sum.inr.inj e2))]
  · rw [List.any_eq_true]
    exact ⟨(Sum.inr y, f y), List.mem_map.mpr ⟨y, h, rfl⟩, decide_eq_true rfl⟩
def rsum (rs : List Rw) (y : Str) : Int := ((rs.filter fun q => decide (q.1 = y)).map (·.2)).sum
theorem rsum_told : ∀ {rs : List Rw} {wh : Bool}, (rs.map (·.1)).Nodup → ∀ y, rsum rs y = (told ⟨rs, wh⟩ y).getD 0
  | [], _, _, y => rfl
  | r :: rs, wh, nd, y => by
    obtain ⟨n1, n2⟩ := List.nodup_cons.mp nd
    have ih := rsum_told (wh := wh) n2 y
    unfold rsum told at *
    rw [List.filter_cons, List.find?_cons]
    by_cases e : r.1 = y
    · rw [decide_eq_true e]
      have : rs.filter (fun q => decide (q.1 = y)) = [] := List.filter_eq_nil_iff.mpr fun q hq => by
        rw [decide_eq_true_eq]
        exact fun z => n1 (List.mem_map.mpr ⟨q, hq, z.trans e.symm⟩)
      simp [this]
    · rw [decide_eq_false e]
      exact ih
theorem rsum_take {rs : List Rw} {j : Nat} {q : Rw} (h : rs[j]? = some q) (y : Str) : rsum (rs.take (j + 1)) y = rsum (rs.take j) y + if y = q.1 then q.2 else 0 := by
  unfold rsum
  rw [List.take_add_one, h, List.filter_append, List.map_append, List.sum_append]
  congr 1
  by_cases e : q.1 = y
  · simp [e]
  · have e' : ¬y = q.1 := fun z => e z.symm
    simp [e, e']
theorem least_take {zs : List Lz} {i : Nat} {z : Lz} (h : zs[i]? = some z) (nd : (z.2.rows.map (·.1)).Nodup) (y : Str) : least ((zs.take (i + 1)).map (·.2)) y = least ((zs.take i).map (·.2)) y + rsum z.2.rows y := by
  unfold least
  rw [List.take_add_one, h, List.map_append, List.map_append, List.sum_append]
  congr 1
  rw [rsum_told (wh := z.2.whole) nd y]
  simp
def spLW : Sp := fun vs H Q _ => ∃ (l lp : Addr) (x : Str) (zs : List Lz) (pool : List Str), vs = [.ref l, .str x, .ref lp] ∧ LsA H l zs ∧ zs.length ≤ 20 ∧ H lp = some (.lst (pool.map V.str)) ∧ pool.Nodup ∧ pool.length ≤ 40 ∧ (∀ z ∈ zs, ∀ q ∈ z.2.rows, q.1 ∈ pool) ∧
  ∀ (t lt dl dm : Addr) (ts : List Addr) (G : Hp), Same H G → G t = some (.tup [.ref lt, .ref dl, .ref dm]) → G lt = some (.lst (ts.map V.ref)) → PrA G ts pool (fun y => if y = x then least (zs.map (·.2)) y else lmost (zs.map (·.2)) y) →
    G dl = some (.dK (dO pool fun y => .int (least (zs.map (·.2)) y))) → G dm = some (.dK (dO pool fun y => .int (lmost (zs.map (·.2)) y))) → Q (.ref t) G
abbrev scW1 : Scope := { kind := .function, names := [(".0", .local), ("_law_one", .cell), ("sum", .globalImplicit), ("_law_parts", .cell)], isGenerator := false, isCoroutine := false }
def teW (K : PySem.W.Frag) : TE := tTup (tCons (tVar 9) (tCons (tCB (rSum K) (tCons (tLc (iList K (tVar 0)) (gName 10) tYes (tCall spLM [] E0 (tCons (tVar 10) (tCons (tVar 9) tNil))) [10]) tNil)) tNil))
section
variable {P : Program} {w : World} {K : PySem.W.Frag} {mg : Str → Option Value} {base : Heap}
theorem ok_LW (D : DefAt K mg "_law_ways" sLW) (TA : TxtA mg) (CM : Cl P w K mg base 1 "_law_most" spLM) : Cl P w K mg base 2 "_law_ways" spLW := by
  refine cl_of D scLW (fun vs H Q E h => ?_) (fun _ _ _ _ _ _ us hl => match us, hl with | [_, _, _], _ => rfl) (fun f cdv A outer s H vs Q E hr h => ?_)
  · obtain ⟨l, lp, x, zs, pool, rfl, _⟩ := h
    rfl
  obtain ⟨l, lp, x, zs, pool, rfl, hz, hzn, hlp, nd, hpl, hin, k⟩ := h
  have hU := hu_of hr
  refine ⟨_, C8.pss_cut (ps_set (i := 3) scLW.nd rfl (Or.inr rfl) (pe_callTy (call_dictP rfl) (by rfl) (by exact TA.dict) (by decide +kernel) (pa_cons (pe_lc (own := [("_law_one", 9)]) (g := gName 9) (tt := tYes) (by rfl) scLW.nd (pi_list (pv 2)) (blkOk_by (own := [("_law_one", 9)]) (N := NLW) (sc := defScope sLW) (by decide +kernel)) (fun _ _ _ _ _ => (pg_name (i := 9) scLW.nd rfl (Or.inl rfl))) (fun _ _ _ _ _ => pts_nil) (fun _ _ _ _ _ => (pe_tup (pa_cons (pv 9) (pa_cons pe_int pa_nil))))) pa_nil)))
(C8.pss_cut (ps_for PassesOwn.never rfl (pi_list (pv 0)) (pg_tup (by rfl) (pgs_cons (pg_name (i := 4) scLW.nd rfl (Or.inl rfl)) (pgs_cons (pg_name (i := 5) scLW.nd rfl (Or.inl rfl)) pgs_nil)))
(pss_one (ps_for PassesOwn.never rfl (pi_tup (pv 4)) (pg_tup (by rfl) (pgs_cons (pg_name (i := 6) scLW.nd rfl (Or.inl rfl)) (pgs_cons (pg_name (i := 7) scLW.nd rfl (Or.inl rfl)) pgs_nil)))
(pss_one (ps_dput hU (pv 3) (pv 6) (pe_op op_add (pe_dget hU (pv 3) (pv 6) (fun _ _ => rfl)) (pv 7)) rfl)))))
(C8.pss_cut (ps_set (i := 8) scLW.nd rfl (Or.inr rfl) (pe_callTy (call_dictP rfl) (by rfl) (by exact TA.dict) (by decide +kernel) (pa_cons (pe_lc (own := [("_law_one", 9)]) (g := gName 9) (tt := tYes) (te := teW K) (by rfl) scLW.nd (pi_list (pv 2)) (blkOk_by (own := [("_law_one", 9)]) (N := NLW) (sc := defScope sLW) (by decide +kernel)) (fun _ _ _ _ _ => (pg_name (i := 9) scLW.nd rfl (Or.inr rfl))) (fun _ _ _ _ _ => pts_nil) (fun _ _ _ _ _ => (pe_tup (pa_cons (pv 9) (pa_cons (pe_callB (cr_sum rfl) (by rfl) (by exact TA.sum) (by decide +kernel) (pa_cons (pe_lc (own := [("_law_part_here", 10)]) (g := gName 10) (tt := tYes) (by rfl) scLW.nd (pi_list (pv 0)) (blkOk_by (own := [("_law_part_here", 10)]) (N := NLW) (sc := scW1) (by decide +kernel)) (fun _ _ _ _ _ => (pg_name (i := 10) scLW.nd rfl (Or.inl rfl))) (fun _ _ _ _ _ => pts_nil) (fun _ _ _ _ _ => (pe_cl CM hr (by decide) rfl (pa_cons (pv 10) (pa_cons (pv 9) pa_nil))))) pa_nil)) pa_nil))))) pa_nil)))
(pss_one (ps_ret (pe_tup (pa_cons (pe_lc (own := [("_law_one", 9)]) (g := gName 9) (tt := tYes) (by rfl) scLW.nd (pi_list (pv 2)) (blkOk_by (own := [("_law_one", 9)]) (N := NLW) (sc := defScope sLW) (by decide +kernel)) (fun _ _ _ _ _ => (pg_name (i := 9) scLW.nd rfl (Or.inl rfl))) (fun _ _ _ _ _ => pts_nil) (fun _ _ _ _ _ => (pe_tup (pa_cons (pv 9) (pa_cons (pe_ifExp (pt_cmpR op_eq (pv 9) (pv 1) (nomark _)) (pe_dget hU (pv 3) (pv 9) (fun _ _ => rfl)) (pe_dget hU (pv 8) (pv 9) (fun _ _ => rfl))) pa_nil))))) (pa_cons (pv 3) (pa_cons (pv 8) pa_nil)))))))), ?_⟩
  have sz2 : 2 ≤ sizeLine := by rw [sizeLine_eq]; decide
  have hpl' : (pool.map V.str).length = pool.length := List.length_map _
  have hzl : (zs.map fun z => V.ref z.1).length = zs.length := List.length_map _
  -- least
  refine ⟨fun σ G => ∃ dl : Addr, σ = [some (.ref l), some (.str x), some (.ref lp), some (.ref dl), none, none, none, none, none, none, none] ∧ Same H G ∧ H dl = none ∧ G dl = some (.dK (dO pool fun y => .int 0)), ?_, ?_⟩
  · refine ⟨_, rfl, lp, rfl, ⟨_, .inl (.inl hlp)⟩, fun D hD => ?_⟩
    refine Lk.go_list (K := K) (a := lp) (xs := pool.map V.str) (fun i G => ∃ ts : List Addr, Same H G ∧ G D = some (.lst (ts.map V.ref)) ∧ PrA G ts (pool.take i) fun _ => 0) ⟨[], Same.new hD, upd_same, ⟨rfl, fun i a q h => by cases h⟩⟩ (fun i G _ ⟨_, h, _⟩ => .inl (.inl (h _ _ hlp))) ?_ ?_
    · rintro i v G hv ⟨ts, sG, hG, hPr⟩
      obtain ⟨y, ey, rfl⟩ := yat hv
      refine ⟨rfl, ?_⟩
      simp only [tYes, if_true]
      refine ⟨_, rfl, sz2, fun t ht => ⟨_, Same.new ht _ _ hG, ?_, ts ++ [t], Same.put (sG.trans (Same.new ht)) hD, ?_, ?_⟩⟩
      · rw [List.length_map, hPr.len, List.length_take, sizeLine_eq]
        omega
      · rw [upd_same, List.map_append]
        rfl
      · rw [List.take_add_one, ey]
        exact hPr.step hG ht rfl
    · rintro G ⟨ts, sG, hG, hPr⟩
      rw [hpl', List.take_length] at hPr
      refine ⟨D, ts, _, rfl, .inl (.inl hG), paired_of hPr, fun q hq => ?_⟩
      refine ⟨q, rfl, Same.put sG (none_of sG hq), none_of sG hq, ?_⟩
      rw [upd_same, merge_dO nd]
  rintro σ G1 ⟨dl, rfl, s1, hdl0, hdl⟩
  refine ⟨fun σ G => ∃ x4 x5 x6 x7, σ = [some (.ref l), some (.str x), some (.ref lp), some (.ref dl), x4, x5, x6, x7, none, none, none] ∧ Same H G ∧ G dl = some (.dK (dO pool fun y => .int (least (zs.map (·.2)) y))), ?_, ?_⟩
  · refine ⟨_, rfl, l, rfl, ⟨_, .inl (.inl (s1 _ _ hz.lst))⟩, for_list (K := K) (a := l) (xs := zs.map fun z => V.ref z.1) (fun i σ G => ∃ x4 x5 x6 x7, σ = [some (.ref l), some (.str x), some (.ref lp), some (.ref dl), x4, x5, x6, x7, none, none, none] ∧ Same H G ∧ G dl = some (.dK (dO pool fun y => .int (least ((zs.take i).map (·.2)) y))))
      ⟨none, none, none, none, rfl, s1, hdl⟩ (fun i σ G _ ⟨_, _, _, _, _, h, _⟩ => .inl (.inl (h _ _ hz.lst))) ?_ ?_⟩
    · rintro i v σ G hv ⟨x4, x5, x6, x7, rfl, sG, hG⟩
      obtain ⟨z, ez, rfl, mz⟩ := zat hv
      obtain ⟨r, as, h1, h2, h3⟩ := ((hz.at_ z mz).same sG).ex
      have hH := (hz.at_ z mz)
      obtain ⟨r', as', g1, g2, g3⟩ := hH.ex
      have er : r' = r := by
        have := sG _ _ g1
        rw [h1] at this
        injection this with this
        injection this with this
        injection this with this _
        exact (V.ref.inj this).symm
      subst er
      have ea : as'.map V.ref = as.map V.ref := by
        have := sG _ _ g2
        rw [h2] at this
        injection this with this
        injection this with this
        exact this.symm
      have hln : (as'.map V.ref).length = z.2.rows.length := by rw [List.length_map, g3.len]
      refine ⟨z.1, _, rfl, .inl (.inl h1), rfl, _, _, rfl, _, _, rfl, rfl, ?_⟩
      refine ⟨_, rfl, r', rfl, ⟨_, .inl (.inl h2)⟩, for_tup (K := K) (a := r') (xs := as'.map V.ref) (fun j σ G => ∃ x6 x7, σ = [some (.ref l), some (.str x), some (.ref lp), some (.ref dl), some (.ref r'), some (.bl z.2.whole), x6, x7, none, none, none] ∧ Same H G ∧ G dl = some (.dK (dO pool fun y => .int (least ((zs.take i).map (·.2)) y + rsum (z.2.rows.take j) y))))
        ⟨x6, x7, rfl, sG, ?_⟩ (fun j σ G _ ⟨_, _, _, h, _⟩ => .inl (.inl (h _ _ g2))) ?_ ?_⟩
      · rw [hG]
        congr 3
        funext y
        rw [show rsum (z.2.rows.take 0) y = 0 from rfl, Int.add_zero]
      · rintro j v σ G' hv' ⟨x6, x7, rfl, sG', hG'⟩
        obtain ⟨a, q, rfl, hq, ha⟩ := g3.get hv'
        have mq : q.1 ∈ pool := hin z mz q (List.mem_of_getElem? hq)
        have hget := DGet.k (k := Sum.inr q.1) hG'
        rw [valV_dO mq] at hget
        refine ⟨a, _, rfl, .inl (.inl (sG' _ _ ha)), rfl, _, _, rfl, _, _, rfl, rfl, ?_⟩
        have put := DPut.k (k := Sum.inr q.1) (v := .int (least ((zs.take i).map (·.2)) q.1 + rsum (z.2.rows.take j) q.1 + q.2)) hG' (by unfold dO; rw [List.length_map, sizeLine_eq]; omega)
        rw [dO_set mq] at put
        refine ⟨_, rfl, _, rfl, dl, _, rfl, hget, _, rfl, _, _, rfl, rfl, _, rfl, _, rfl, dl, _, rfl, put, ?_⟩
        refine ⟨some (.str q.1), some (.int q.2), rfl, Same.put sG' hdl0, ?_⟩
        rw [upd_same]
        congr 3
        funext y
        rw [rsum_take hq y]
        by_cases e : y = q.1
        · subst e
          rw [if_pos rfl, if_pos rfl, Int.add_assoc]
        · rw [if_neg e, if_neg e, Int.add_zero]
      · rintro σ G' ⟨x6, x7, rfl, sG', hG'⟩
        rw [hln, List.take_length] at hG'
        refine ⟨some (.ref r'), some (.bl z.2.whole), x6, x7, rfl, sG', ?_⟩
        rw [hG']
        congr 3
        funext y
        rw [least_take ez (hz.at_ z mz).ok.pt.nd y]
    · rintro σ G ⟨x4, x5, x6, x7, rfl, sG, hG⟩
      rw [hzl, List.take_length] at hG
      exact ⟨x4, x5, x6, x7, rfl, sG, hG⟩
  rintro σ G2 ⟨x4, x5, x6, x7, rfl, s2, hdl2⟩
  have hz2 := hz.same s2
  have hlp2 := s2 _ _ hlp
  -- most
  refine ⟨fun σ G => ∃ dm : Addr, σ = [some (.ref l), some (.str x), some (.ref lp), some (.ref dl), x4, x5, x6, x7, some (.ref dm), none, none] ∧ Same G2 G ∧ G dm = some (.dK (dO pool fun y => .int (lmost (zs.map (·.2)) y))), ?_, ?_⟩
  · refine ⟨_, rfl, lp, rfl, ⟨_, .inl (.inl hlp2)⟩, fun D hD => ?_⟩
    refine Lk.go_list (K := K) (a := lp) (xs := pool.map V.str) (fun i G => ∃ ts : List Addr, Same G2 G ∧ G D = some (.lst (ts.map V.ref)) ∧ PrA G ts (pool.take i) fun y => lmost (zs.map (·.2)) y) ⟨[], Same.new hD, upd_same, ⟨rfl, fun i a q h => by cases h⟩⟩ (fun i G _ ⟨_, h, _⟩ => .inl (.inl (h _ _ hlp2))) ?_ ?_
    · rintro i v G hv ⟨ts, sG, hG, hPr⟩
      obtain ⟨y, ey, rfl⟩ := yat hv
      refine ⟨rfl, ?_⟩
      simp only [tYes, if_true]
      refine ⟨_, rfl, _, rfl, l, rfl, ⟨_, .inl (.inl (sG _ _ hz2.lst))⟩, fun D2 hD2 => ?_⟩
      refine Lk.go_list (K := K) (a := l) (xs := zs.map fun z => V.ref z.1) (fun j G' => Same G G' ∧ G' D2 = some (.lst (((zs.take j).map fun z => lm z.2 y).map V.int))) ⟨Same.new hD2, upd_same⟩ (fun j G' _ h => .inl (.inl ((sG.trans h.1) _ _ hz2.lst))) ?_ ?_
      · rintro j v G' hv' ⟨sG', hG'⟩
        obtain ⟨z, ez, rfl, mz⟩ := zat hv'
        refine ⟨rfl, ?_⟩
        simp only [tYes, if_true]
        refine ⟨_, rfl, _, rfl, z.1, z.2, y, rfl, ((hz2.at_ z mz).same (sG.trans sG')), fun G'' s'' => ⟨_, s'' _ _ hG', ?_, Same.put (sG'.trans s'') hD2, ?_⟩⟩
        · rw [List.length_map, List.length_map, List.length_take, sizeLine_eq]
          omega
        · rw [upd_same, List.take_add_one, ez, List.map_append, List.map_append]
          rfl
      · rintro G' ⟨sG', hG'⟩
        rw [hzl, List.take_length] at hG'
        have hD' := sG' _ _ hG
        refine ⟨D2, _, rfl, .inl (.inl hG'), sz2, fun t ht => ⟨_, Same.new ht _ _ hD', ?_, ts ++ [t], Same.put ((sG.trans sG').trans (Same.new ht)) hD, ?_, ?_⟩⟩
        · rw [List.length_map, hPr.len, List.length_take, sizeLine_eq]
          omega
        · rw [upd_same, List.map_append]
          rfl
        · rw [List.take_add_one, ey]
          refine (hPr.same sG').step hD' ht ?_
          unfold lmost
          rw [List.map_map]
          rfl
    · rintro G ⟨ts, sG, hG, hPr⟩
      rw [hpl', List.take_length] at hPr
      refine ⟨D, ts, _, rfl, .inl (.inl hG), paired_of hPr, fun q hq => ?_⟩
      refine ⟨q, rfl, Same.put sG (none_of sG hq), ?_⟩
      rw [upd_same, merge_dO nd]
  rintro σ G3 ⟨dm, rfl, s3, hdm⟩
  have hlp3 := s3 _ _ hlp2
  have hdl3 := s3 _ _ hdl2
  refine ⟨_, rfl, lp, rfl, ⟨_, .inl (.inl hlp3)⟩, fun D hD => ?_⟩
  refine Lk.go_list (K := K) (a := lp) (xs := pool.map V.str) (fun i G => ∃ ts : List Addr, Same G3 G ∧ G D = some (.lst (ts.map V.ref)) ∧ PrA G ts (pool.take i) fun y => if y = x then least (zs.map (·.2)) y else lmost (zs.map (·.2)) y) ⟨[], Same.new hD, upd_same, ⟨rfl, fun i a q h => by cases h⟩⟩ (fun i G _ ⟨_, h, _⟩ => .inl (.inl (h _ _ hlp3))) ?_ ?_
  · rintro i v G hv ⟨ts, sG, hG, hPr⟩
    obtain ⟨y, ey, rfl⟩ := yat hv
    have my := List.mem_of_getElem? ey
    refine ⟨rfl, ?_⟩
    simp only [tYes, if_true]
    have e1 : decide (V.str y = V.str x) = decide (y = x) := by
      by_cases h : y = x <;> simp [h]
    have fin : ∀ (t : Addr) (v : Int), G t = none → v = (if y = x then least (zs.map (·.2)) y else lmost (zs.map (·.2)) y) → ∃ acc, upd G t (.tup [.str y, .int v]) D = some (.lst acc) ∧ acc.length < sizeLine ∧
        ∃ ts, Same G3 (upd (upd G t (.tup [.str y, .int v])) D (.lst (acc ++ [.ref t]))) ∧ upd (upd G t (.tup [.str y, .int v])) D (.lst (acc ++ [.ref t])) D = some (.lst (ts.map V.ref)) ∧
          PrA (upd (upd G t (.tup [.str y, .int v])) D (.lst (acc ++ [.ref t]))) ts (pool.take (i + 1)) fun y => if y = x then least (zs.map (·.2)) y else lmost (zs.map (·.2)) y := fun t v ht hv => by
      refine ⟨_, Same.new ht _ _ hG, ?_, ts ++ [t], Same.put (sG.trans (Same.new ht)) hD, ?_, ?_⟩
      · rw [List.length_map, hPr.len, List.length_take, sizeLine_eq]
        omega
      · rw [upd_same, List.map_append]
        rfl
      · rw [List.take_add_one, ey]
        exact hPr.step hG ht hv
    refine ⟨_, rfl, _, rfl, _, rfl, rfl, _, rfl, ?_⟩
    rw [e1]
    refine ite2 (fun h => ?_) (fun h => ?_)
    · have hget := DGet.k (k := Sum.inr y) (sG _ _ hdl3)
      rw [valV_dO my] at hget
      exact ⟨_, rfl, _, rfl, dl, _, rfl, hget, sz2, fun t ht => fin t _ ht (by rw [if_pos (of_decide_eq_true h)])⟩
    · have hget := DGet.k (k := Sum.inr y) (sG _ _ hdm)
      rw [valV_dO my] at hget
      exact ⟨_, rfl, _, rfl, dm, _, rfl, hget, sz2, fun t ht => fin t _ ht (by rw [if_neg (fun z => h (decide_eq_true z))])⟩
  · rintro G ⟨ts, sG, hG, hPr⟩
    rw [hpl', List.take_length] at hPr
    refine ⟨_, rfl, _, rfl, (by show 3 ≤ sizeLine; rw [sizeLine_eq]; decide), fun t ht => ?_⟩
    have st := Same.new (o := .tup [.ref D, .ref dl, .ref dm]) ht
    exact k t D dl dm ts _ (s2.trans (s3.trans (sG.trans st))) upd_same (st _ _ hG) (hPr.same st) (st _ _ (sG _ _ hdl3)) (st _ _ (sG _ _ hdm))
end
end Wq
set_option Elab.async false
set_option linter.all false
set_option maxRecDepth 100000
set_option maxHeartbeats 8000000
namespace Wq
open PySem PySem.Spec PyProof.Rows L2
open Kd (Pt Rw told most lm sumO least mostO lmost below ahead sureL openL enc leR leD)
/-! a drawn way -/
abbrev sLD : Stmt := top 22
abbrev NLD : List Str := ["_law_pen_here", "_law_parts", "_law_pool", "_law_totals", "_law_one", "_law_part_here", "_law_told_here", "_law_most_here", "_law_name", "_law_many"]
theorem scLD : FnScope NLD ["_law_pen_here", "_law_parts", "_law_pool"] (defScope sLD) := ⟨rfl, rfl, rfl, by decide +kernel, rfl, by decide +kernel, by decide +kernel⟩
def spLD : Sp := fun vs H Q _ => ∃ (p c l lp : Addr) (m : Nat) (zs : List Lz) (pool : List Str), vs = [.ref p, .ref l, .ref lp] ∧ PenAt H p c m ∧ m ≤ 100000 ∧ LsA (rm p H) l zs ∧ zs.length ≤ 20 ∧ rm p H lp = some (.lst (pool.map V.str)) ∧ pool.Nodup ∧ pool.length ≤ 40 ∧
  ∀ (d : Addr) (tot : Str → Int) (G : Hp), PenAt G p c (m + 800) → Same (rm p H) (rm p G) → rm p G d = some (.dK (dO pool fun y => .int (tot y))) → (∀ y ∈ pool, least (zs.map (·.2)) y ≤ tot y ∧ tot y ≤ lmost (zs.map (·.2)) y) → Q (.ref d) G
theorem LPt.okd {p : Pt} (h : LPt p) : Kd.Ok p := ⟨fun q hq => (h.ok q hq).2⟩
theorem lm_bd {p : Pt} (h : LPt p) (y : Str) : 0 ≤ lm p y ∧ lm p y ≤ 99 := by
  obtain ⟨h1, h2⟩ := Kd.most_lm h.okd y
  rw [← h1]
  cases e : most p (some y) with
  | none => exact ⟨by decide, by decide⟩
  | some m =>
    have := h2 m e
    exact ⟨this.1, by show m ≤ 99; omega⟩
theorem lm_told {p : Pt} {y : Str} {m : Int} (h : told p y = some m) : lm p y = m := by
  unfold lm
  rw [h]
theorem least_take' {zs : List Lz} {i : Nat} {z : Lz} (h : zs[i]? = some z) (y : Str) : least ((zs.take (i + 1)).map (·.2)) y = least ((zs.take i).map (·.2)) y + (told z.2 y).getD 0 := by
  unfold least
  rw [List.take_add_one, h, List.map_append, List.map_append, List.sum_append]
  congr 1
  simp
theorem lmost_take {zs : List Lz} {i : Nat} {z : Lz} (h : zs[i]? = some z) (y : Str) : lmost ((zs.take (i + 1)).map (·.2)) y = lmost ((zs.take i).map (·.2)) y + lm z.2 y := by
  unfold lmost
  rw [List.take_add_one, h, List.map_append, List.map_append, List.sum_append]
  congr 1
  simp
section
variable {P : Program} {w : World} {K : PySem.W.Frag} {mg : Str → Option Value} {base : Heap}
theorem ok_LD (D : DefAt K mg "_law_drawn_way" sLD) (CD : Cl P w K mg base 1 "_law_draw" (spDraw K)) (CM : Cl P w K mg base 1 "_law_most" spLM) : Cl P w K mg base 2 "_law_drawn_way" spLD := by
  refine cl_of D scLD (fun vs H Q E h => ?_) (fun _ _ _ _ _ _ us hl => match us, hl with | [_, _, _], _ => rfl) (fun f cdv A outer s H vs Q E hr h => ?_)
  · obtain ⟨p, c, l, lp, m, zs, pool, rfl, _⟩ := h
    rfl
  obtain ⟨p, c, l, lp, m, zs, pool, rfl, hP, hm, hz, hzn, hlp, nd, hpl, k⟩ := h
  have hU := hu_of hr
  refine ⟨_, pss_cons (ps_set (i := 3) scLD.nd rfl (Or.inl rfl) pe_dnewK)
(C8.pss_cut (ps_for PassesOwn.never rfl (pi_list (pv 2)) (pg_name (i := 4) scLD.nd rfl (Or.inr rfl))
(pss_cons (ps_dput hU (pv 3) (pv 4) pe_int rfl)
(pss_one (ps_for PassesOwn.never rfl (pi_list (pv 1)) (pg_name (i := 5) scLD.nd rfl (Or.inl rfl))
(C8.pss_cut (ps_setLc (i := 6) (own := [("_law_name", 8), ("_law_many", 9)]) (g := gTup K 2 (gCons (gName 8) (gCons (gName 9) gNil))) (by rfl) scLD.nd rfl rfl (sw_true rfl rfl rfl (by decide +kernel)) (pi_tup (pe_ix ix_tup (pv 5) pe_int (fun _ _ => rfl))) (blkOk_by (own := [("_law_name", 8), ("_law_many", 9)]) (N := NLD) (sc := defScope sLD) (by decide +kernel)) (fun _ _ _ _ _ => (pg_tup (by rfl) (pgs_cons (pg_name (i := 8) scLD.nd rfl (Or.inl rfl)) (pgs_cons (pg_name (i := 9) scLD.nd rfl (Or.inl rfl)) pgs_nil)))) (fun _ _ _ _ _ => (pts_one (pt_cmpR op_eq (pv 8) (pv 4) (nomark _)))) (fun _ _ _ _ _ => (pv 9)))
(C8.pss_cut (ps_set (i := 7) scLD.nd rfl (Or.inl rfl) (pe_cl CM hr (by decide) rfl (pa_cons (pv 5) (pa_cons (pv 4) pa_nil))))
(pss_one (ps_dput hU (pv 3) (pv 4) (pe_op op_add (pe_dget hU (pv 3) (pv 4) (fun _ _ => rfl)) (pe_ifExp (pt_cmpR (op_neD (hu64 hr)) (pv 6) (pe_lst pa_nil) (nomark _)) (pe_ix ix_list (pv 6) pe_int (fun _ _ => rfl)) (pe_cl CD hr (by decide) rfl (pa_cons (pv 0) (pa_cons (pe_op op_add (pv 7) pe_int) pa_nil))))) rfl))))))))
(pss_one (ps_ret (pv 3)))), ?_⟩
  intro T0 hT0
  have nTp := hP.nb hT0
  have hP0 := hP.new (o := .dK []) hT0
  have hpl' : (pool.map V.str).length = pool.length := List.length_map _
  have hzl : (zs.map fun z => V.ref z.1).length = zs.length := List.length_map _
  -- what stays when totals and the pen change
  have stay : ∀ {G G' : Hp}, Same (rm p H) (rm p G) → (∀ b o, G b = some o → b ≠ p → b ≠ T0 → G' b = some o) → Same (rm p H) (rm p G') := fun {G G'} s h b o e => by
    obtain ⟨nbp, eH⟩ := rm_of e
    exact rm_get (h _ _ (rm_of (s _ _ e)).2 nbp (ne_of_none eH hT0)) nbp
  refine ⟨fun σ G => ∃ (tot : Str → Int) (x4 x5 x6 x7 : Option V), σ = [some (.ref p), some (.ref l), some (.ref lp), some (.ref T0), x4, x5, x6, x7, none, none] ∧ PenAt G p c (m + 800) ∧ Same (rm p H) (rm p G) ∧ G T0 = some (.dK (dO pool fun y => .int (tot y))) ∧
    ∀ y ∈ pool, least (zs.map (·.2)) y ≤ tot y ∧ tot y ≤ lmost (zs.map (·.2)) y, ?_, ?_⟩
  · have hlp0 : ∀ {G : Hp}, Same (rm p H) (rm p G) → G lp = some (.lst (pool.map V.str)) := fun s => (rm_of (s _ _ hlp)).2
    refine ⟨_, rfl, lp, rfl, ⟨_, .inl (.inl (Same.new hT0 _ _ (rm_of hlp).2))⟩, for_list (K := K) (a := lp) (xs := pool.map V.str) (fun i σ G => ∃ (tot : Str → Int) (x4 x5 x6 x7 : Option V), σ = [some (.ref p), some (.ref l), some (.ref lp), some (.ref T0), x4, x5, x6, x7, none, none] ∧ PenAt G p c (m + i * zs.length) ∧ Same (rm p H) (rm p G) ∧ G T0 = some (.dK (dO (pool.take i) fun y => .int (tot y))) ∧
        ∀ y ∈ pool.take i, least (zs.map (·.2)) y ≤ tot y ∧ tot y ≤ lmost (zs.map (·.2)) y)
      ⟨fun _ => 0, none, none, none, none, rfl, hP0.mono (by omega), rm_same (Same.new hT0), upd_same, fun y h => by cases h⟩ (fun i σ G _ ⟨_, _, _, _, _, _, _, h, _⟩ => .inl (.inl (hlp0 h))) ?_ ?_⟩
    · rintro i v σ G hv ⟨tot, x4, x5, x6, x7, rfl, hp, sG, hG, hb⟩
      obtain ⟨y, ey, rfl⟩ := yat hv
      have hi : i < pool.length := (List.getElem?_eq_some_iff.mp ey).1
      have nyt : y ∉ pool.take i := by
        intro hm
        obtain ⟨j, hj, er⟩ := List.mem_iff_getElem.mp hm
        rw [List.length_take] at hj
        rw [List.getElem_take] at er
        obtain ⟨hi', e2⟩ := List.getElem?_eq_some_iff.mp ey
        have := (List.pairwise_iff_getElem.mp nd) j i (by omega) hi' (by omega)
        rw [er, e2] at this
        exact this rfl
      have hil : i * zs.length ≤ 40 * 20 := Nat.mul_le_mul (by omega) hzn
      have put := DPut.k (k := Sum.inr y) (v := .int 0) hG (by unfold dO; rw [List.length_map, List.length_take, sizeLine_eq]; omega)
      have e0 : putK (dO (pool.take i) fun z => V.int (tot z)) (Sum.inr y) (V.int 0) = dO (pool.take (i + 1)) fun z => .int (if z = y then 0 else tot z) := by
        have e1 : dO (pool.take i) (fun z => V.int (tot z)) = dO (pool.take i) fun z => V.int (if z = y then 0 else tot z) := by
          unfold dO
          refine List.map_congr_left fun z hz' => ?_
          show (Sum.inr z, V.int (tot z)) = (Sum.inr z, V.int (if z = y then 0 else tot z))
          rw [if_neg fun e : z = y => nyt (e ▸ hz')]
        have e2 := dO_put (f := fun z => V.int (if z = y then 0 else tot z)) nd ey
        rw [e1, ← e2]
        simp
      rw [e0] at put
      refine ⟨_, rfl, _, rfl, T0, _, rfl, put, ?_⟩
      have hp1 : PenAt (upd G T0 (.dK (dO (pool.take (i + 1)) fun z => .int (if z = y then 0 else tot z)))) p c (m + i * zs.length) := hp.put nTp.symm (ne_of hp.cells.choose_spec hG (by intro z; cases z))
      have s1 := stay (G' := upd G T0 (.dK (dO (pool.take (i + 1)) fun z => .int (if z = y then 0 else tot z)))) sG fun b o e _ n => by rw [upd_ne n]; exact e
      have hll : ∀ {G : Hp}, Same (rm p H) (rm p G) → G l = some (.lst (zs.map fun z => V.ref z.1)) := fun s => (rm_of (s _ _ hz.lst)).2
      refine ⟨_, rfl, l, rfl, ⟨_, .inl (.inl (hll s1))⟩, for_list (K := K) (a := l) (xs := zs.map fun z => V.ref z.1) (fun j σ G => ∃ (acc : Int) (x5 x6 x7 : Option V), σ = [some (.ref p), some (.ref l), some (.ref lp), some (.ref T0), some (.str y), x5, x6, x7, none, none] ∧ PenAt G p c (m + i * zs.length + j) ∧ Same (rm p H) (rm p G) ∧ G T0 = some (.dK (dO (pool.take (i + 1)) fun z => .int (if z = y then acc else tot z))) ∧
          least ((zs.take j).map (·.2)) y ≤ acc ∧ acc ≤ lmost ((zs.take j).map (·.2)) y)
        ⟨0, x5, x6, x7, rfl, hp1, s1, upd_same, Int.le_refl 0, Int.le_refl 0⟩ (fun j σ G _ ⟨_, _, _, _, _, _, h, _⟩ => .inl (.inl (hll h))) ?_ ?_⟩
      · rintro j v σ G' hv' ⟨acc, x5, x6, x7, rfl, hp', sG', hG', b1, b2⟩
        obtain ⟨z, ez, rfl, mz⟩ := zat hv'
        have hj : j < zs.length := (List.getElem?_eq_some_iff.mp ez).1
        have hA : PtA G' z.1 z.2 := ((hz.at_ z mz).same sG').same rm_le
        obtain ⟨r, as, h1, h2, h3⟩ := hA.ex
        have hfew := hA.ok.few
        have hln : (as.map V.ref).length = z.2.rows.length := by rw [List.length_map, h3.len]
        refine ⟨fun σ G => ∃ lt : Addr, σ = [some (.ref p), some (.ref l), some (.ref lp), some (.ref T0), some (.str y), some (.ref z.1), some (.ref lt), x7, none, none] ∧ Same G' G ∧ G lt = some (.lst ((toldL z.2 y).map V.int)), ?_, ?_⟩
        · refine ⟨_, rfl, z.1, _, 0, .ref r, rfl, rfl, .inl (.inl h1), rfl, r, rfl, ⟨_, .inl (.inl h2)⟩, fun D hD => ?_⟩
          refine lc_tup (K := K) (a := r) (xs := as.map V.ref) (fun i G => Same G' G ∧ G D = some (.lst ((((z.2.rows.take i).filter fun q => decide (q.1 = y)).map (·.2)).map V.int))) ⟨Same.new hD, upd_same⟩ (fun i G _ h => .inl (.inl (h.1 _ _ h2))) ?_ ?_
          · rintro i v G hv ⟨sG, hG⟩
            obtain ⟨a, q, rfl, hq, ha⟩ := h3.get hv
            have hfl : ((z.2.rows.take i).filter fun q => decide (q.1 = y)).length ≤ 5 := by
              have := List.length_filter_le (fun q : Rw => decide (q.1 = y)) (z.2.rows.take i)
              rw [List.length_take] at this
              omega
            refine ⟨a, _, rfl, .inl (.inl (sG _ _ ha)), rfl, _, _, rfl, _, _, rfl, rfl, rfl, ?_⟩
            rw [show (z.2.rows.take (i + 1)).filter (fun q => decide (q.1 = y)) = (z.2.rows.take i).filter (fun q => decide (q.1 = y)) ++ if decide (q.1 = y) = true then [q] else [] by
              rw [List.take_add_one, hq, List.filter_append]
              congr 1
              simp only [Option.toList, List.filter_cons, List.filter_nil]]
            refine ⟨_, rfl, _, rfl, rfl, _, rfl, ?_⟩
            have e1 : decide (V.str q.1 = V.str y) = decide (q.1 = y) := by
              by_cases h : q.1 = y <;> simp [h]
            rw [e1]
            refine ite2 (fun h => ?_) (fun h => ?_)
            · refine ⟨_, rfl, _, hG, by rw [List.length_map, List.length_map, sizeLine_eq]; omega, Same.put sG hD, ?_⟩
              rw [upd_same, if_pos h, List.map_append, List.map_append]
              rfl
            · refine ⟨sG, ?_⟩
              rw [if_neg h, List.append_nil]
              exact hG
          · rintro G ⟨sG, hG⟩
            rw [hln, List.take_length] at hG
            exact ⟨D, rfl, sG, hG⟩
        rintro σ G2 ⟨lt, rfl, s2, hlt⟩
        refine ⟨fun σ G => σ = [some (.ref p), some (.ref l), some (.ref lp), some (.ref T0), some (.str y), some (.ref z.1), some (.ref lt), some (.int (lm z.2 y)), none, none] ∧ Same G2 G, ?_, ?_⟩
        · exact ⟨_, rfl, _, rfl, z.1, z.2, y, rfl, hA.same s2, fun G s => ⟨rfl, s⟩⟩
        rintro σ G3 ⟨rfl, s3⟩
        have hG3 := s3 _ _ (s2 _ _ hG')
        have hp3 := (hp'.same s2).same s3
        have myt : y ∈ pool.take (i + 1) := by
          rw [List.take_add_one, ey]
          exact List.mem_append_right _ (by simp)
        have hget := DGet.k (k := Sum.inr y) hG3
        rw [valV_dO myt, if_pos rfl] at hget
        obtain ⟨lb1, lb2⟩ := lm_bd hA.ok y
        have htl : (toldL z.2 y).length ≤ 5 := by
          unfold toldL
          rw [List.length_map]
          have := List.length_filter_le (fun q : Rw => decide (q.1 = y)) z.2.rows
          omega
        have fin : ∀ (v : Int) (G4 : Hp), PenAt G4 p c (m + i * zs.length + (j + 1)) → (∀ b o, G3 b = some o → b ≠ p → b ≠ T0 → G4 b = some o) → G4 T0 = some (.dK (dO (pool.take (i + 1)) fun z => .int (if z = y then acc else tot z))) → (told z.2 y).getD 0 ≤ v → v ≤ lm z.2 y →
            ∃ G5, DPut G4 T0 (.str y) (.int (acc + v)) G5 ∧ ∃ (acc' : Int) (x5' x6' x7' : Option V), [some (.ref p), some (.ref l), some (.ref lp), some (.ref T0), some (V.str y), some (V.ref z.1), some (V.ref lt), some (V.int (lm z.2 y)), none, none] = [some (V.ref p), some (V.ref l), some (V.ref lp), some (V.ref T0), some (V.str y), x5', x6', x7', none, none] ∧ PenAt G5 p c (m + i * zs.length + (j + 1)) ∧ Same (rm p H) (rm p G5) ∧ G5 T0 = some (.dK (dO (pool.take (i + 1)) fun z => .int (if z = y then acc' else tot z))) ∧
              least ((zs.take (j + 1)).map (·.2)) y ≤ acc' ∧ acc' ≤ lmost ((zs.take (j + 1)).map (·.2)) y := fun v G4 q1 q2 q3 q4 q5 => by
          have put := DPut.k (k := Sum.inr y) (v := .int (acc + v)) q3 (by unfold dO; rw [List.length_map, List.length_take, sizeLine_eq]; omega)
          rw [dO_set myt] at put
          refine ⟨_, put, acc + v, _, _, _, rfl, q1.put nTp.symm (ne_of q1.cells.choose_spec q3 (by intro z; cases z)), stay sG' fun b o e n1 n2 => by rw [upd_ne n2]; exact q2 _ _ (s3 _ _ (s2 _ _ e)) n1 n2, ?_, ?_, ?_⟩
          · rw [upd_same]
            congr 3
            funext u
            by_cases e : u = y
            · rw [if_pos e, if_pos e]
            · rw [if_neg e, if_neg e, if_neg e]
          · rw [least_take' ez]
            omega
          · rw [lmost_take ez]
            omega
        refine ⟨_, rfl, _, rfl, T0, _, rfl, hget, _, rfl, (by show 0 ≤ sizeLine; exact Nat.zero_le _), fun l0 hl0 => ?_⟩
        have s4 := Same.new (o := .lst []) hl0
        have hlt4 := s4 _ _ (s3 _ _ hlt)
        refine ⟨.list ((toldL z.2 y).map PyData.int), .list [], .lst (.inl (.inl hlt4)) (ints_dp _), .lst (.inl (.inl upd_same)) .nil, PySem.W.shaped_ints _, PySem.W.shaped_ints [], _, rfl, ?_⟩
        rw [ints_nil]
        have hp4 := hp3.same s4
        have hG4 := s4 _ _ hG3
        generalize upd G3 l0 (.lst []) = G4 at s4 hlt4 hp4 hG4
        refine ite2 (fun h => ?_) (fun h => ?_)
        · have hne : toldL z.2 y ≠ [] := fun z => by rw [decide_eq_true z] at h; exact absurd h (by decide)
          cases e : told z.2 y with
          | none => exact absurd (toldL_none.mpr e) hne
          | some m0 =>
          obtain ⟨lr, el⟩ := toldL_some e
          obtain ⟨G5, f1, f2⟩ := fin m0 G4 (hp4.mono (by omega)) (fun b o e _ _ => s4 _ _ e) hG4 (by rw [e]; exact Int.le_refl _) (by rw [lm_told e]; exact Int.le_refl _)
          refine ⟨_, rfl, lt, _, 0, .int m0, rfl, rfl, .inl (.inl hlt4), by rw [el]; exact atI_nat (j := 0) rfl, ?_⟩
          exact ⟨_, _, rfl, rfl, _, rfl, _, rfl, T0, G5, rfl, f1, f2⟩
        · have hnil : toldL z.2 y = [] := by
            by_cases z' : toldL z.2 y = []
            · exact z'
            · rw [decide_eq_false z'] at h
              exact absurd rfl h
          have e := toldL_none.mp hnil
          refine ⟨_, rfl, _, rfl, _, _, rfl, rfl, p, c, m + i * zs.length + j, lm z.2 y + 1, rfl, hp4, by omega, by omega, log_ok (by omega), fun v o a b hp5 => ?_⟩
          have hG5 : upd G4 p o T0 = some (.dK (dO (pool.take (i + 1)) fun z => .int (if z = y then acc else tot z))) := by rw [upd_ne nTp]; exact hG4
          obtain ⟨G5, f1, f2⟩ := fin v _ hp5 (fun b o' e n1 _ => by rw [upd_ne n1]; exact s4 _ _ e) hG5 (by rw [e]; exact a) (by omega)
          exact ⟨_, _, rfl, rfl, _, rfl, _, rfl, T0, G5, rfl, f1, f2⟩
      · rintro σ G' ⟨acc, x5, x6, x7, rfl, hp', sG', hG', b1, b2⟩
        rw [hzl] at hp' b1 b2
        rw [List.take_length] at b1 b2
        refine ⟨fun z => if z = y then acc else tot z, some (.str y), x5, x6, x7, rfl, hp'.mono (by rw [Nat.succ_mul]; omega), sG', hG', fun u hu => ?_⟩
        by_cases e : u = y
        · subst e
          show least (zs.map (·.2)) u ≤ (if u = u then acc else tot u) ∧ (if u = u then acc else tot u) ≤ lmost (zs.map (·.2)) u
          rw [if_pos rfl]
          exact ⟨b1, b2⟩
        · show least (zs.map (·.2)) u ≤ (if u = y then acc else tot u) ∧ (if u = y then acc else tot u) ≤ lmost (zs.map (·.2)) u
          rw [if_neg e]
          refine hb u ?_
          rw [List.take_add_one, ey] at hu
          rcases List.mem_append.mp hu with hu | hu
          · exact hu
          · exact absurd (by simpa using hu) e
    · rintro σ G ⟨tot, x4, x5, x6, x7, rfl, hp, sG, hG, hb⟩
      rw [hpl'] at hp
      rw [hpl', List.take_length] at hG hb
      have : pool.length * zs.length ≤ 40 * 20 := Nat.mul_le_mul hpl hzn
      exact ⟨tot, x4, x5, x6, x7, rfl, hp.mono (by omega), sG, hG, hb⟩
  rintro σ G ⟨tot, x4, x5, x6, x7, rfl, hp, sG, hG, hb⟩
  exact ⟨_, rfl, k T0 tot G hp sG (rm_get hG nTp) hb⟩
end
end Wq
set_option Elab.async false
set_option linter.all false
set_option maxRecDepth 100000
set_option maxHeartbeats 4000000
/-! try with two clauses, both of which name the error -/
namespace Tr
open PySem PySem.Spec PyProof.Rows L2
def back (i : Nat) (D : Ends) : Ends := { nx := fun σ H => D.nx (σ.set i none) H, rt := D.rt, bk := fun σ H => D.bk (σ.set i none) H, ct := fun σ H => D.ct (σ.set i none) H }
def wAs2 (K : PySem.W.Frag) (c1 c2 : Value) (i : Nat) (t1 t2 : Addr → Value → Option Addr → TS) (D : Ends) : WX := fun cls d σ H =>
  (PySem.W.exmOne K cls c1 = some true ∧ ∀ a, H a = none → t1 a cls d (back i D) (σ.set i (some (.ref a))) H) ∨
  (PySem.W.exmOne K cls c1 = some false ∧ PySem.W.exmOne K cls c2 = some true ∧ ∀ a, H a = none → t2 a cls d (back i D) (σ.set i (some (.ref a))) H)
variable {X : Cx} {x1 x2 n : Str} {c1 c2 : Value} {i : Nat} {body suite1 suite2 : List Stmt} {b1 b2 : Stmt} {np1 np2 pos pos1 pos2 : Pos} {tb : WX → TS} {t1 t2 : Addr → Value → Option Addr → TS}
/-- the suite of a clause -/
theorem as_suite {pins : List (Addr × Obj)} {σ' : L2.St} {H' : Hp} {sI s3 : Shared} {B : Heap} {a : Addr} {cls : Value} {d : Option Addr} {D : Ends} {R : Result → Shared → Prop}
    (hN : X.N.Nodup) (hi : X.N[i]? = some n) (hln : X.env.kindOf n = some .local)
    (hsu : ∀ (a : Addr) (oe : Obj) (cls : Value) (d : Option Addr) (pn : List (Addr × Obj)), Zc cls d oe → (∃ vs, oe.data = Data.fields vs) → PSs (X.suite a ((a, oe) :: pn)) (b1 :: suite1) (t1 a cls d))
    (J : L2.Inv X pins σ' H' sI) (nb : ∀ (b : Addr) (o : Obj), sI.heap.get? b = some o → ¬b ∈ frs X.stack → B.get? b = some o) (os : s3.os = sI.os) (ag : PyProof.Rows.AllBare s3.gens)
    {l : List Env} (fl3 : HandSPX.FlyingZ B l a (Zc cls d) s3.heap) (up3 : sI.heap.UpToSlots s3.heap) (na : H' a = none) (nL : a ≠ X.env.locals) (nF : ¬a ∈ X.fs)
    (hy : t1 a cls d (back i D) (σ'.set i (some (.ref a))) H')
    (hR : ∀ f s2, wpAny (model X.prog X.w) X.A (do
        bindName X.env n Value.none
        unbindBehindTheSuite X.env n pos1) (fun _ s3 => SP X pins D f s3) X.xe s2 → R (.ok f) s2) :
    codeAny (model X.prog X.w) (X.A.mark (some (.ref a))) (Code.handlers (.ref a) [ExceptHandler.ExceptHandler none (some n) (b1 :: suite1) pos1] X.env) R s3 := by
  have hloc : L2.Loc X.env.scope n := .inl hln
  refine codeAny_handlers_suite_as ?_
  refine HandSPX.lands_againZ fl3 fun h4 fl4 up4 => ?_
  have J4 := J.landed (s' := { s3 with heap := h4 }) nb fl4.1 (up3.trans up4) os ag
  obtain ⟨oe4, vs4, he4, hz4, hd4⟩ := fl4.there
  have S4 := J4.suite he4 hd4 na nL nF
  refine store_ok (X := X.suite a ((a, oe4) :: (X.pn ++ pins))) (v := .ref a) S4 hN hi hloc rfl (fun s5 S5 => ?_) (.inr hln)
  refine wpAny_mono ((hsu a oe4 cls d (X.pn ++ pins) hz4 ⟨vs4, hd4⟩).run [] s5 _ H' (back i D) S5 hy) (fun f s6 hsp => hR f s6 ?_) (fun _ _ z => z.elim)
  have end_ : ∀ {σ6 : L2.St} {H6 : Hp} {Q : Shared → Prop}, L2.Inv (X.suite a ((a, oe4) :: (X.pn ++ pins))) [] σ6 H6 s6 → (∀ s7, L2.Inv X pins (List.set σ6 i none) H6 s7 → Q s7) → wpAny (model X.prog X.w) X.A (do
        bindName X.env n Value.none
        unbindBehindTheSuite X.env n pos1) (fun _ s7 => Q s7) X.xe s6 := fun S6 hq => gone_ok (S6.unsuite J.ok) hN hi hln hq
  cases f with
  | next =>
    obtain ⟨σ6, H6, S6, q6⟩ := hsp
    exact end_ S6 fun s7 J7 => ⟨_, _, J7, q6⟩
  | brk =>
    obtain ⟨σ6, H6, S6, q6⟩ := hsp
    exact end_ S6 fun s7 J7 => ⟨_, _, J7, q6⟩
  | cont =>
    obtain ⟨σ6, H6, S6, q6⟩ := hsp
    exact end_ S6 fun s7 J7 => ⟨_, _, J7, q6⟩
  | ret u =>
    obtain ⟨v6, σ6, H6, S6, r6, q6⟩ := hsp
    exact end_ S6 fun s7 J7 => ⟨_, _, _, J7, r6, q6⟩
/-- a test of a clause: what is caught is a class by name -/
theorem name_test {pins : List (Addr × Obj)} {σ' : L2.St} {H' : Hp} {a : Addr} {oe : Obj} {s3 : Shared} {x : Str} {c : Value} {cls : Value} {b : Bool} {np pos : Pos} {R : Result → Shared → Prop}
    (S3 : L2.Inv (X.suite a ((a, oe) :: (X.pn ++ pins))) [] σ' H' s3) (he : s3.heap.get? a = some oe) (hz : oe.cls = cls) (hc : Gl X x ∧ (x == ("__debug__" : Str)) = false ∧ X.mg x = some c) (hb : PySem.W.exmOne X.K cls c = some b) (q : R (.ok (if b = true then Flow.brk else Flow.next)) s3) :
    codeAny (model X.prog X.w) (X.A.mark (some (.ref a))) (Code.handlers (.ref a) [ExceptHandler.ExceptHandler (some (Expr.Name x np)) none [] pos] X.env) R s3 := by
  refine codeAny_handlers_test ?_
  have LT : PySem.W.Looks (model X.prog X.w) s3.heap (typeOf (.ref a)) cls := fun A Q E s k q => wpAny_typeOf_ref (k a oe he) (by rw [hz]; exact q)
  have LM : PySem.W.Looks (model X.prog X.w) s3.heap (excMatches (.ref a) c) b := PySem.W.exm_one S3.kIn LT hb
  obtain ⟨hg, hdbg, hm⟩ := hc
  exact ld_glob S3 hg hm (LM.here q) hdbg
theorem ps_try_as2 (hs : X.stack = X.env :: X.outer) (hf : X.env.frame = some X.env.locals) (hN : X.N.Nodup) (hi : X.N[i]? = some n) (hln : X.env.kindOf n = some .local) (hc1 : Gl X x1 ∧ (x1 == ("__debug__" : Str)) = false ∧ X.mg x1 = some c1) (hc2 : Gl X x2 ∧ (x2 == ("__debug__" : Str)) = false ∧ X.mg x2 = some c2)
    (hb : ∀ (W : WX) (pn : List (Addr × Obj)) (xe : Value → Shared → Prop), Takes (X.tr pn xe) W → PassesOwn (model X.prog X.w) X.A X.env xe → PSs (X.tr pn xe) body (tb W))
    (hsu1 : ∀ (a : Addr) (oe : Obj) (cls : Value) (d : Option Addr) (pn : List (Addr × Obj)), Zc cls d oe → (∃ vs, oe.data = Data.fields vs) → PSs (X.suite a ((a, oe) :: pn)) (b1 :: suite1) (t1 a cls d))
    (hsu2 : ∀ (a : Addr) (oe : Obj) (cls : Value) (d : Option Addr) (pn : List (Addr × Obj)), Zc cls d oe → (∃ vs, oe.data = Data.fields vs) → PSs (X.suite a ((a, oe) :: pn)) (b2 :: suite2) (t2 a cls d)) :
    PS X (.Try body [.ExceptHandler (some (.Name x1 np1)) (some n) (b1 :: suite1) pos1, .ExceptHandler (some (.Name x2 np2)) (some n) (b2 :: suite2) pos2] [] [] pos) (fun D σ H => tb (wAs2 X.K c1 c2 i t1 t2 D) D σ H) := by
  refine ⟨fun pins s σ H D I h => ?_⟩
  have ok := I.ok
  have hfr : X.A.frames = some (X.env :: X.outer) := by rw [← hs]; exact ok.frames
  refine wpAny_Try_except (wpAny_mono ((hb (wAs2 X.K c1 c2 i t1 t2 D) (X.pn ++ pins) _ (fun u s' xx => ?_) PassesOwn.looking).run [] s σ H D (Inv.toTry I _) h) (fun f s1 hsp => ?_) fun e s1 he => he)
  · obtain ⟨a, B, sI, pins', σ', H', cls, d, rfl, J', nb, up, sky, na, os, ag, hw⟩ := xx
    have J := Inv.ofTry J' ok
    have sky' : Sky B (X.env :: X.outer) a (Zc cls d) X.env.locals s'.heap := by rw [← hs]; exact sky
    refine Sky.land Zc.steady hfr hf sky' fun h3 fl3 up3 => ?_
    have J3 := J.landed (s' := { s' with heap := h3 }) nb fl3.1 (up.trans up3) os ag
    obtain ⟨oe3, vs3, he3, hz3, hd3⟩ := fl3.there
    have nfr : ¬a ∈ frs (X.env :: X.outer) := fun hm => by
      obtain ⟨_, o', e', hnf⟩ := Heap.FunFrames.mem fl3.2.2.1 hm
      rw [he3] at e'
      obtain rfl := Option.some.inj e'
      exact hnf vs3 hd3
    have nL : a ≠ X.env.locals := fun z => nfr (List.mem_filterMap.mpr ⟨X.env, List.mem_cons_self, by rw [hf, z]⟩)
    have nF : ¬a ∈ X.fs := fun hm => by
      obtain ⟨e, he, q⟩ := List.mem_filterMap.mp hm
      exact nfr (List.mem_filterMap.mpr ⟨e, List.mem_cons_of_mem _ he, q⟩)
    have S3 := J3.suite he3 hd3 na nL nF
    refine wpAny_handleBy_cons ?_ (by intro q; cases q)
    rcases hw with ⟨e1, hy⟩ | ⟨e1, e2, hy⟩
    · refine name_test S3 he3 hz3.1 hc1 e1 ?_
      exact as_suite hN hi hln hsu1 J nb os ag fl3 (up.trans up3) na nL nF (hy a na) fun f s2 q => q
    · refine name_test S3 he3 hz3.1 hc1 e1 ?_
      refine wpAny_handleBy_cons ?_ (by intro q; cases q)
      refine name_test S3 he3 hz3.1 hc2 e2 ?_
      exact as_suite hN hi hln hsu2 J nb os ag fl3 (up.trans up3) na nL nF (hy a na) fun f s2 q => q
  · cases f with
    | next =>
      obtain ⟨σ', H', J', q⟩ := hsp
      exact wpAny_execs_nil ⟨σ', H', Inv.ofTry J' ok, q⟩
    | brk =>
      obtain ⟨σ', H', J', q⟩ := hsp
      exact ⟨σ', H', Inv.ofTry J' ok, q⟩
    | cont =>
      obtain ⟨σ', H', J', q⟩ := hsp
      exact ⟨σ', H', Inv.ofTry J' ok, q⟩
    | ret u =>
      obtain ⟨v, σ', H', J', r, q⟩ := hsp
      exact ⟨v, σ', H', Inv.ofTry J' ok, r, q⟩
end Tr
set_option Elab.async false
set_option linter.all false
set_option maxRecDepth 100000
set_option maxHeartbeats 8000000
namespace Wq
open PySem PySem.Spec PyProof.Rows L2
open Kd (Pt Rw told most lm sumO least mostO lmost below ahead sureL openL enc leR leD)
/-! what is told or refused -/
abbrev sLT : Stmt := top 23
theorem scLT : FnScope ["_law_parts", "_law_k", "e"] ["_law_parts", "_law_k"] (defScope sLT) := ⟨rfl, rfl, rfl, by decide +kernel, rfl, by decide +kernel, by decide +kernel⟩
inductive LtR (K : PySem.W.Frag) (H : Hp) (Q : VK) : List (Option Pt) → V → Prop
  | bad {ps : List Pt} {os : List (Option Pt)} {kv : V} : ps.length + os.length ≤ 18 → (∀ t G, Same H G → G t = some (.tup [.str "rows", .int ps.length]) → Q (.ref t) G) → LtR K H Q (ps.map some ++ none :: os) kv
  | odd {ps : List Pt} {kv : V} {d : PyData} {t : String} : ps.length ≤ 20 → OV K H kv d t → (fInt d = false ∨ ∃ i, kv = .int i ∧ i < 1) → (∀ t G, Same H G → G t = some (.tup [.str "k", kv]) → Q (.ref t) G) → LtR K H Q (ps.map some) kv
def spLT (K : PySem.W.Frag) : Sp := fun vs H Q _ => ∃ (u : Addr) (kv : V) (xs : List V) (os : List (Option Pt)), vs = [.ref u, kv] ∧ SqA H u xs ∧ PrtsV K H xs os ∧ LtR K H Q os kv
def bTd (K : PySem.W.Frag) (CR CN : Addr) (W : WX) : TS := fun D σ H => ∃ (u : Addr) (kv : V) (xs : List V) (os : List (Option Pt)), σ = [some (.ref u), some kv, none] ∧ SqA H u xs ∧ PrtsV K H xs os ∧ SfR K CR CN H D.rt (fun c d G => W c d σ G) os kv
def cTd1 (CR : Addr) (a : Addr) (cls : Value) (d : Option Addr) : TS := fun D σ H => ∃ (dd : Addr) (v : V), cls = .ref CR ∧ d = some dd ∧ σ[2]? = some (some (.ref a)) ∧ H dd = some (.xd [("index", v)]) ∧ ∀ t, H t = none → D.rt (.ref t) (upd H t (.tup [.str "rows", v]))
def cTd2 (CN : Addr) (a : Addr) (cls : Value) (d : Option Addr) : TS := fun D σ H => ∃ (dd : Addr) (v w : V), cls = .ref CN ∧ d = some dd ∧ σ[2]? = some (some (.ref a)) ∧ H dd = some (.xd [("number", w), ("what", v)]) ∧ ∀ t, H t = none → D.rt (.ref t) (upd H t (.tup [v, w]))
section
variable {P : Program} {w : World} {K : PySem.W.Frag} {mg : Str → Option Value} {base : Heap} {CR CN : Addr}
theorem ok_LT (D : DefAt K mg "_law_told" sLT) (ER : ErK P w K mg base CR CN) (ne : PySem.W.exmOne K (.ref CN) (.ref CR) = some false) (CS : Cle P w K mg base 4 "sure_first" (spSF K CR CN)) : Cl P w K mg base 5 "_law_told" (spLT K) := by
  obtain ⟨F0, fdS, psS, GS, hmS, kpS, bS⟩ := CS.ex
  obtain ⟨fR, fdR, TF, GR, bR⟩ := ER.r
  obtain ⟨fN, fdN, TE, GN, bN⟩ := ER.n
  refine cl_of D scLT (fun vs H Q E h => ?_) (fun _ _ _ _ _ _ us hl => match us, hl with | [_, _], _ => rfl) (fun f cdv A outer s H vs Q E hr h => ?_)
  · obtain ⟨u, kv, xs, os, rfl, _⟩ := h
    rfl
  obtain ⟨u, kv, xs, os, rfl, hu, hP, hR⟩ := h
  refine ⟨_, pss_one (Tr.ps_try_as2 (i := 2) (tb := fun W => bTd K CR CN W) (t1 := cTd1 CR) (t2 := cTd2 CN) rfl rfl scLT.nd rfl rfl ⟨rfl, by decide, TF.gC⟩ ⟨rfl, by decide, TE.gC⟩
    (fun W pn xe tk _ => pss_pre (pss_one (ps_ret (pe_callS GS hr rfl hmS kpS bS (fun σ => passAt tk σ) (pa_cons (pv 0) (pa_cons (pv 1) pa_nil))))) (fun D σ H hb => ?_))
    (fun a oe cls d pn hz hf => pss_pre (pss_one (ps_ret (pe_tup (pa_cons pe_str (pa_cons (pe_xf TF.xf TF.nN hz hf (pv 2)) pa_nil))))) (fun D σ H hb => ?_))
    (fun a oe cls d pn hz hf => pss_pre (pss_one (ps_ret (pe_tup (pa_cons (pe_xf TE.xf TE.n1 hz hf (pv 2)) (pa_cons (pe_xf TE.xf TE.n2 hz hf (pv 2)) pa_nil))))) (fun D σ H hb => ?_))), ?_⟩
  · obtain ⟨u, kv, xs, os, rfl, hu, hP, hR⟩ := hb
    exact ⟨_, rfl, _, rfl, u, kv, xs, os, rfl, hu, hP, hR⟩
  · obtain ⟨dd, v, rfl, rfl, hs, hd, kk⟩ := hb
    exact ⟨_, hs, rfl, rfl, dd, _, _, rfl, hd, (by rfl), (by show 2 ≤ sizeLine; rw [sizeLine_eq]; decide), kk⟩
  · obtain ⟨dd, v, w, rfl, rfl, hs, hd, kk⟩ := hb
    exact ⟨_, hs, rfl, rfl, dd, _, _, rfl, hd, (by rfl), _, hs, rfl, rfl, dd, _, _, rfl, hd, (by rfl), (by show 2 ≤ sizeLine; rw [sizeLine_eq]; decide), kk⟩
  · refine ⟨u, kv, xs, os, rfl, hu, hP, ?_⟩
    cases hR with
    | bad hl hk =>
      refine .bad hl fun d G hE => ?_
      obtain ⟨s1, hd0, hd⟩ := hE
      exact .inl ⟨TF.te, fun a ha => ⟨d, _, rfl, rfl, rfl, hd, fun t ht => hk t _ (s1.trans (Same.new ht)) upd_same⟩⟩
    | odd hl ho hc hk =>
      refine .odd hl ho hc fun d G hE => ?_
      obtain ⟨s1, hd0, hd⟩ := hE
      exact .inr ⟨ne, TE.te, fun a ha => ⟨d, _, _, rfl, rfl, rfl, hd, fun t ht => hk t _ (s1.trans (Same.new ht)) upd_same⟩⟩
end
end Wq
set_option Elab.async false
set_option linter.all false
set_option maxRecDepth 100000
set_option maxHeartbeats 4000000
namespace Wq
open PySem PySem.Spec PyProof.Rows L2
def Sz (l : List Nat) : Str := ⟨l.toArray⟩
theorem Sz_len (l : List Nat) : (Sz l).length = l.length := by simp [Sz, Str.length]
theorem rep_Sz (c : Nat) (k : Nat) : (⟨(List.replicate k (Sz [c]).cps).foldl (· ++ ·) #[]⟩ : Str) = Sz (List.replicate k c) := by
  have h : ∀ (k : Nat) (a : List Nat), (List.replicate k (Sz [c]).cps).foldl (· ++ ·) a.toArray = (a ++ List.replicate k c).toArray := by
    intro k
    induction k with
    | zero => intro a; simp
    | succ k ih =>
      intro a
      rw [List.replicate_succ, List.foldl_cons, show a.toArray ++ (Sz [c]).cps = (a ++ [c]).toArray by simp [Sz], ih, List.replicate_succ]
      simp
  have := h k []
  rw [List.nil_append] at this
  show Str.mk _ = Str.mk _
  rw [this]
/-- a sign, many times -/
theorem op_sgz {X : Cx} : OpR X (binaryOp .Mult) (fun x y H Q => ∃ (c k : Nat), x = .str (Sz [c]) ∧ y = .int (k : Int) ∧ k ≤ 1000 ∧ Q (.str (Sz (List.replicate k c))) H) := by
  intro pins s σ H x y v u Q I rx ry hh
  obtain ⟨c, k, rfl, rfl, k9, q⟩ := hh
  obtain ⟨t, rfl⟩ := rx
  obtain ⟨t', rfl⟩ := ry
  have hl : (Sz [c]).length = 1 := Sz_len _
  refine PySem.P.mul_str ?_ (fun _ _ => ?_) (fun _ _ => ?_) ?_
  · rw [Bool.or_eq_false_iff]
    exact ⟨decide_eq_false (by omega), decide_eq_false (by omega)⟩
  · rw [hl]
    have hk : (1 : Int) ≤ (2 ^ 63 - 1) / (k : Int) := by
      rw [Int.le_ediv_iff_mul_le (by omega)]
      omega
    omega
  · rw [hl, show ((k : Nat) : Int).toNat = k by omega, Nat.one_mul]
    have hs := sizeLine_eq
    exact decide_eq_false (by omega)
  · have fin : ∀ tk tt, ∃ v' H', L2.Inv X pins σ H' { s with toks := tk } ∧ RelV v' (Value.str (Sz (List.replicate k c)) tt) ∧ Q v' H' := fun tk tt => ⟨.str (Sz (List.replicate k c)), H, I.tok _, ⟨_, rfl⟩, q⟩
    by_cases h0 : k = 0
    · subst h0
      rw [if_pos (by decide)]
      exact ⟨Nat.zero_le _, ⟨.str (Sz (List.replicate 0 c)), H, I.tok _, ⟨_, rfl⟩, q⟩⟩
    · by_cases h1 : k = 1
      · subst h1
        rw [if_neg (by decide), if_pos (by simp)]
        exact ⟨.str (Sz (List.replicate 1 c)), H, I, ⟨_, rfl⟩, q⟩
      · rw [if_neg (by omega)]
        have e1 : (((k : Nat) : Int) == 1 || (Sz [c]).length == 0) = false := by
          rw [hl, Bool.or_eq_false_iff]
          exact ⟨beq_eq_false_iff_ne.mpr (by omega), rfl⟩
        rw [if_neg (by rw [e1]; decide), show ((k : Nat) : Int).toNat = k by omega, rep_Sz]
        refine ⟨?_, ⟨.str (Sz (List.replicate k c)), H, I.tok _, ⟨_, rfl⟩, q⟩⟩
        rw [Sz_len, List.length_replicate]
        have hs := sizeLine_eq
        omega
end Wq
set_option Elab.async false
set_option linter.all false
/-! rows of texts in order -/
namespace So
open PySem PySem.Spec PyProof.Rows
def leS (a b : Str) : Prop := a.cps.toList ≤ b.cps.toList
theorem not_lt {a b : Str} (h : ltCps b.cps.toList a.cps.toList = false) : leS a b := by
  rw [ltCps_eq] at h
  exact List.not_lt.mp (of_decide_eq_false h)
theorem rise : ∀ (l : List Str) (p : Str), risingS p l = true → (p :: l).Pairwise leS
  | [], p, _ => by simp
  | x :: r, p, h => by
    have h : (!ltCps x.cps.toList p.cps.toList && risingS x r) = true := h
    rw [Bool.and_eq_true] at h
    have ih := rise r x h.2
    have h1 : leS p x := not_lt (by simpa using h.1)
    refine List.pairwise_cons.mpr ⟨fun y hy => ?_, ih⟩
    rcases List.mem_cons.mp hy with rfl | hy
    · exact h1
    · exact List.le_trans h1 ((List.pairwise_cons.mp ih).1 y hy)
theorem pw {l : List Str} (h : sortedS l = true) : l.Pairwise leS := by
  cases l with
  | nil => exact .nil
  | cons x r => exact rise r x h
theorem str_ext {a b : Str} (h : a.cps.toList = b.cps.toList) : a = b := by
  cases a
  cases b
  simp only [Str.mk.injEq]
  exact Array.ext' h
theorem one {ys zs : List Str} (hp : ys.Perm zs) (h1 : sortedS ys = true) (h2 : sortedS zs = true) : ys = zs :=
  hp.eq_of_pairwise (le := leS) (fun a b _ _ h1 h2 => str_ext (List.le_antisymm h1 h2)) (pw h1) (pw h2)
end So
set_option Elab.async false
set_option linter.all false
set_option maxRecDepth 100000
set_option maxHeartbeats 8000000
namespace Wq
open PySem PySem.Spec PyProof.Rows L2
open Kd (Pt Rw told most lm sumO least mostO lmost below ahead sureL openL lsure lopen enc leR leD)
/-! what the law needs of names, of pools, of comparing -/
structure LwA (p c : Addr) (m : Nat) (l : Addr) (zs : List Lz) (G : Hp) : Prop where
  pen : PenAt G p c m
  ls : LsA (rm p G) l zs
section
variable {p c l : Addr} {m m' : Nat} {zs : List Lz} {G G' : Hp} {o : HO}
theorem LwA.same (h : LwA p c m l zs G) (s : Same G G') : LwA p c m l zs G' := ⟨h.pen.same s, h.ls.same (rm_same s)⟩
theorem LwA.lsG (h : LwA p c m l zs G) : LsA G l zs := h.ls.same rm_le
theorem LwA.mono (h : LwA p c m l zs G) (k : m ≤ m') : LwA p c m' l zs G := ⟨h.pen.mono k, h.ls⟩
theorem LwA.drawn (h : LwA p c m l zs G) (hp : PenAt (upd G p o) p c m') : LwA p c m' l zs (upd G p o) := ⟨hp, by rw [rm_draw]; exact h.ls⟩
theorem LwA.pn (h : LwA p c m l zs G) (hp : PenAt G' p c m') (s : Same (rm p G) (rm p G')) : LwA p c m' l zs G' := ⟨hp, h.ls.same s⟩
end
theorem PtA.put {H : Hp} {t D : Addr} {q : Pt} {us us' : List V} (h : PtA H t q) (hD : H D = some (.lst us)) : PtA (upd H D (.lst us')) t q := by
  obtain ⟨r, as, h1, h2, h3⟩ := h.ex
  refine ⟨⟨r, as, ?_, ?_, ⟨h3.len, fun i b x e1 e2 => ?_⟩⟩, h.ok⟩
  · rw [upd_ne (ne_of h1 hD (by intro z; cases z))]
    exact h1
  · rw [upd_ne (ne_of h2 hD (by intro z; cases z))]
    exact h2
  · have := h3.at_ i b x e1 e2
    rw [upd_ne (ne_of this hD (by intro z; cases z))]
    exact this
theorem rm_upd {p D : Addr} {H : Hp} {o : HO} (n : D ≠ p) : rm p (upd H D o) = upd (rm p H) D o := by
  funext b
  unfold rm
  by_cases h : b = p
  · subst h
    rw [if_pos rfl, upd_ne n.symm, if_pos rfl]
  · rw [if_neg h]
    by_cases e : b = D
    · subst e
      rw [upd_same, upd_same]
    · rw [upd_ne e, upd_ne e, if_neg h]
/-! names -/
def nmz (zs : List Lz) : List Str := zs.flatMap fun z => z.2.rows.map (·.1)
theorem nmz_take {zs : List Lz} {i : Nat} {z : Lz} (h : zs[i]? = some z) : nmz (zs.take (i + 1)) = nmz (zs.take i) ++ z.2.rows.map (·.1) := by
  unfold nmz
  rw [List.take_add_one, h, List.flatMap_append]
  simp
theorem nmz_len : ∀ {zs : List Lz}, (∀ z ∈ zs, LPt z.2) → (nmz zs).length ≤ 5 * zs.length
  | [], _ => Nat.le_refl _
  | z :: zs, h => by
    have := nmz_len (zs := zs) fun y hy => h y (List.mem_cons_of_mem _ hy)
    have h1 := (h z List.mem_cons_self).few
    unfold nmz at *
    rw [List.flatMap_cons, List.length_append, List.length_map, List.length_cons]
    omega
theorem nmz_mem {zs : List Lz} {x : Str} : x ∈ nmz zs ↔ ∃ p ∈ zs.map (·.2), x ∈ p.rows.map (·.1) := by
  unfold nmz
  rw [List.mem_flatMap]
  constructor
  · rintro ⟨z, hz, h⟩
    exact ⟨z.2, List.mem_map.mpr ⟨z, hz, rfl⟩, h⟩
  · rintro ⟨p, hp, h⟩
    obtain ⟨z, hz, rfl⟩ := List.mem_map.mp hp
    exact ⟨z, hz, h⟩
theorem nmz_abc {zs : List Lz} (h : ∀ z ∈ zs, LPt z.2) {x : Str} (hx : x ∈ nmz zs) : x ∈ abc := by
  obtain ⟨p, hp, h1⟩ := nmz_mem.mp hx
  obtain ⟨z, hz, rfl⟩ := List.mem_map.mp hp
  obtain ⟨q, hq, rfl⟩ := List.mem_map.mp h1
  exact ((h z hz).ok q hq).1
/-! texts behind all -/
def zz (i : Nat) : Str := "zz" ++ Sz (List.replicate i 122)
theorem zz_cps (i : Nat) : (zz i).cps.toList = 122 :: 122 :: List.replicate i 122 := by
  show ((("zz" : Str).cps ++ (Sz (List.replicate i 122)).cps).toList) = _
  rw [Array.toList_append]
  rfl
theorem zz_inj {i j : Nat} (h : zz i = zz j) : i = j := by
  have := congrArg (fun x : Str => x.cps.toList.length) h
  simp only [zz_cps, List.length_cons, List.length_replicate] at this
  omega
theorem abc_c : ∀ x ∈ abc, ∃ c, x.cps.toList = [c] ∧ c < 122 := by
  intro x hx
  simp only [abc, List.mem_cons, List.not_mem_nil, or_false] at hx
  rcases hx with rfl | rfl | rfl | rfl | rfl
  · exact ⟨97, by decide +kernel, by decide⟩
  · exact ⟨98, by decide +kernel, by decide⟩
  · exact ⟨99, by decide +kernel, by decide⟩
  · exact ⟨100, by decide +kernel, by decide⟩
  · exact ⟨101, by decide +kernel, by decide⟩
theorem zz_not (i : Nat) : zz i ∉ abc := fun h => by
  obtain ⟨c, e, _⟩ := abc_c _ h
  rw [zz_cps] at e
  cases e
theorem zz_lt {i : Nat} {x : Str} (h : x ∈ abc) : Kd.lt (zz i) x = false := by
  obtain ⟨c, e, hc⟩ := abc_c _ h
  unfold Kd.lt
  rw [zz_cps, e]
  refine decide_eq_false fun z => ?_
  rcases List.cons_lt_cons_iff.mp z with z | ⟨z, _⟩ <;> omega
def zzs (k : Nat) : List Str := (List.range k).map zz
theorem zzs_nd (k : Nat) : (zzs k).Nodup := List.pairwise_map.mpr ((List.nodup_range).imp fun h e => h (zz_inj e))
theorem pool_nd {ys : List Str} {k : Nat} (h : ys.Nodup) (ha : ∀ x ∈ ys, x ∈ abc) : (ys ++ zzs k).Nodup := by
  refine List.nodup_append.mpr ⟨h, zzs_nd k, fun a h1 b h2 e => ?_⟩
  obtain ⟨i, _, rfl⟩ := List.mem_map.mp h2
  exact zz_not i (e ▸ ha a h1)
theorem zzs_out {zs : List Lz} {ys : List Str} {k : Nat} (h : ∀ z ∈ zs, LPt z.2) (ha : ∀ x ∈ ys, x ∈ abc) : ∀ z ∈ zzs k, z ∉ ys ∧ ∀ p ∈ zs.map (·.2), told p z = none ∧ ∀ r ∈ p.rows, Kd.lt z r.1 = false := by
  intro z hz
  obtain ⟨i, _, rfl⟩ := List.mem_map.mp hz
  refine ⟨fun hm => zz_not i (ha _ hm), fun p hp => ?_⟩
  obtain ⟨y, hy, rfl⟩ := List.mem_map.mp hp
  refine ⟨?_, fun r hr => zz_lt ((h y hy).ok r hr).1⟩
  cases e : told y.2 (zz i) with
  | none => rfl
  | some m => exact absurd ((h y hy).ok _ (Kd.told_mem e)).1 (zz_not i)
theorem pool_in {zs : List Lz} {ys : List Str} {k : Nat} (hm : ∀ x, x ∈ ys ↔ x ∈ nmz zs) : ∀ z ∈ zs, ∀ q ∈ z.2.rows, q.1 ∈ ys ++ zzs k := fun z hz q hq =>
  List.mem_append_left _ ((hm _).mpr (nmz_mem.mpr ⟨z.2, List.mem_map.mpr ⟨z, hz, rfl⟩, List.mem_map.mpr ⟨q, hq, rfl⟩⟩))
/-! what is due -/
def dueL (ys zs : List Str) (ps : List Pt) (k : Int) (x : Str) : Bool := !lsure ys zs ps k x && lopen ys ps k x
theorem due_eq {ps : List Pt} (ok : ∀ p ∈ ps, Kd.Ok p) (few : ps.length ≤ 3) {ys zs : List Str} {k : Int} (hk : 1 ≤ k) (hzl : (zs.length : Int) = k) (hz : ∀ z ∈ zs, z ∉ ys ∧ ∀ p ∈ ps, told p z = none ∧ ∀ r ∈ p.rows, Kd.lt z r.1 = false) :
    sureL ys ps k = ys.filter (lsure ys zs ps k) ∧ openL ys ps k = ys.filter (dueL ys zs ps k) := by
  have h1 : sureL ys ps k = ys.filter (lsure ys zs ps k) := by
    unfold sureL
    exact List.filter_congr fun x hx => Kd.sure_eq ok few hk hzl hz hx
  refine ⟨h1, ?_⟩
  unfold openL
  refine List.filter_congr fun x hx => ?_
  unfold dueL
  rw [Kd.open_eq ok few hk x, h1]
  congr 2
  rw [Bool.eq_iff_iff, decide_eq_true_eq, List.mem_filter]
  exact ⟨fun h => h.2, fun h => ⟨hx, h⟩⟩
/-! comparing -/
theorem layS : ∀ l : List Str, (∀ x ∈ l, PyData.strOk x = true) → PyData.canLayAll0 (l.map PyData.str) = true
  | [], _ => by simp [PyData.canLayAll0]
  | x :: l, h => by
    have h1 := layS l fun y hy => h y (List.mem_cons_of_mem _ hy)
    have := h x List.mem_cons_self
    simp [PyData.canLayAll0, PyData.canLay0, this, h1]
theorem deepS : ∀ l : List Str, PyData.depthAll (l.map PyData.str) = 0
  | [] => by simp [PyData.depthAll]
  | x :: l => by
    rw [List.map_cons, PyData.depthAll, deepS l, PyData.depth]
    rfl
theorem shap_of {d : PyData} (h : d.canLay0 = true) (h2 : d.depth ≤ 64) : SeqAt.shaped d = true := by
  show (d.canLay0 && decide (d.depth ≤ 64)) = true
  rw [Bool.and_eq_true]
  exact ⟨h, decide_eq_true h2⟩
theorem ne_same {K : PySem.W.Frag} {H : Hp} {x y : V} {d : PyData} {Q : VK} (h1 : Dp K H x d) (h2 : Dp K H y d) (hl : d.canLay0 = true) (hd : d.depth ≤ 64) (k : Q (.bl false) H) : rNeD K x y H Q := by
  refine ⟨d, d, h1, h2, shap_of hl hd, shap_of hl hd, ?_⟩
  rw [PySem.SeqAt.eqv_refl d hl]
  exact k
theorem eq_same {K : PySem.W.Frag} {H : Hp} {x y : V} {d : PyData} {Q : VK} (h1 : Dp K H x d) (h2 : Dp K H y d) (hl : d.canLay0 = true) (hd : d.depth ≤ 64) (k : Q (.bl true) H) : rEqD K x y H Q := by
  refine ⟨d, d, h1, h2, shap_of hl hd, shap_of hl hd, ?_⟩
  rw [PySem.SeqAt.eqv_refl d hl]
  exact k
def strD (l : List Str) : PyData := .tuple (l.map PyData.str)
def dueD (l m : List Str) : PyData := .tuple [strD l, strD m]
theorem dueD_ok {l m : List Str} (h1 : ∀ x ∈ l, PyData.strOk x = true) (h2 : ∀ x ∈ m, PyData.strOk x = true) : (dueD l m).canLay0 = true ∧ (dueD l m).depth ≤ 64 := by
  constructor
  · simp [dueD, strD, PyData.canLay0, PyData.canLayAll0, layS l h1, layS m h2]
  · simp [dueD, strD, PyData.depth, PyData.depthAll, deepS]
theorem dpS {K : PySem.W.Frag} {H : Hp} : ∀ l : List Str, DpAll K H (l.map V.str) (l.map PyData.str)
  | [] => .nil
  | x :: l => .cons (.str x) (dpS l)
theorem dpDue {K : PySem.W.Frag} {H : Hp} {t a b : Addr} {l m : List Str} (h : H t = some (.tup [.ref a, .ref b])) (ha : H a = some (.tup (l.map V.str))) (hb : H b = some (.tup (m.map V.str))) : Dp K H (.ref t) (dueD l m) :=
  .tup (.inl (.inl h)) (.cons (.tup (.inl (.inl ha)) (dpS l)) (.cons (.tup (.inl (.inl hb)) (dpS m)) .nil))
/-! parts, all of them -/
theorem prts_of {K : PySem.W.Frag} {H : Hp} {zs : List Lz} (h : ∀ z ∈ zs, PtA H z.1 z.2) : PrtsV K H (zs.map fun z => V.ref z.1) ((zs.map (·.2)).map some) := by
  refine ⟨by rw [List.length_map, List.length_map, List.length_map], fun i v o h1 h2 => ?_⟩
  obtain ⟨z, ez, rfl, mz⟩ := zat h1
  rw [List.map_map, List.getElem?_map, ez] at h2
  obtain rfl := Option.some.inj h2
  exact (h z mz).prt
theorem many_le : ∀ {zs : List Lz}, (∀ z ∈ zs, LPt z.2) → manyRows (zs.map (·.2)) ≤ 5 * zs.length
  | [], _ => Nat.le_refl _
  | z :: zs, h => by
    have := many_le (zs := zs) fun y hy => h y (List.mem_cons_of_mem _ hy)
    have h1 := (h z List.mem_cons_self).few
    unfold manyRows at *
    rw [List.map_cons, List.map_cons, List.sum_cons, List.length_cons]
    omega
theorem one_ys {ys zs : List Str} (h1 : sortedS ys = true) (h2 : sortedS zs = true) (n1 : ys.Nodup) (n2 : zs.Nodup) (h : ∀ x, x ∈ ys ↔ x ∈ zs) : ys = zs :=
  So.one ((List.perm_ext_iff_of_nodup n1 n2).mpr h) h1 h2
theorem abc_strOk {x : Str} (h : x ∈ abc) : PyData.strOk x = true := strOk_of (abc_ok x h).2.2
/-! wrong parts -/
theorem its1 {H : Hp} {v : V} {o : Option Rw} (h : ItV H v o) : ItsV H [v] [o] := ⟨rfl, fun i u q h1 h2 => by
  match i, h1, h2 with
  | 0, h1, h2 =>
    obtain rfl := Option.some.inj h1
    obtain rfl := Option.some.inj h2
    exact h⟩
theorem its2 {H : Hp} {v v2 : V} {o o2 : Option Rw} (h : ItV H v o) (h' : ItV H v2 o2) : ItsV H [v, v2] [o, o2] := ⟨rfl, fun i u q h1 h2 => by
  match i, h1, h2 with
  | 0, h1, h2 =>
    obtain rfl := Option.some.inj h1
    obtain rfl := Option.some.inj h2
    exact h
  | 1, h1, h2 =>
    obtain rfl := Option.some.inj h1
    obtain rfl := Option.some.inj h2
    exact h'⟩
section
variable {K : PySem.W.Frag} {G : Hp} {t1 t2 t3 t4 : Addr}
theorem al0 {v : V} {b : Bool} (h1 : G t1 = none) (hv : Sq K G v false) : Same G (upd G t1 (.tup [v, .bl b])) ∧ PrtV K (upd G t1 (.tup [v, .bl b])) (.ref t1) none :=
  ⟨Same.new h1, .bad upd_same (.no (hv.same (Same.new h1)))⟩
theorem al1 {v : V} {b : Bool} (h2 : G t2 = none) (h3 : upd G t2 (.tup [v]) t3 = none) (hi : ItV G v none) :
    Same G (upd (upd G t2 (.tup [v])) t3 (.tup [.ref t2, .bl b])) ∧ PrtV K (upd (upd G t2 (.tup [v])) t3 (.tup [.ref t2, .bl b])) (.ref t3) none := by
  have s2 := Same.new (o := .tup [v]) h2
  have s3 := Same.new (o := .tup [.ref t2, .bl b]) h3
  exact ⟨s2.trans s3, .bad upd_same (.rows (s3 _ _ upd_same) (its1 (hi.same (s2.trans s3))) (by decide) (.bad (by simp)))⟩
theorem al2 {u v : V} {p q : Rw} {b : Bool} (h2 : G t2 = none) (h3 : upd G t2 (.tup [u, v]) t3 = none) (hp : ItV G u (some p)) (hq : ItV G v (some q)) (hr : AfR [some p, some q] false) :
    Same G (upd (upd G t2 (.tup [u, v])) t3 (.tup [.ref t2, .bl b])) ∧ PrtV K (upd (upd G t2 (.tup [u, v])) t3 (.tup [.ref t2, .bl b])) (.ref t3) none := by
  have s2 := Same.new (o := .tup [u, v]) h2
  have s3 := Same.new (o := .tup [.ref t2, .bl b]) h3
  exact ⟨s2.trans s3, .bad upd_same (.rows (s3 _ _ upd_same) (its2 (hp.same (s2.trans s3)) (hq.same (s2.trans s3))) (by show 2 ≤ 20; decide) hr)⟩
end
theorem rw_ab : RwOk ("a", 1) ∧ RwOk ("b", 2) ∧ RwOk ("b", 1) ∧ RwOk ("a", 2) := by
  refine ⟨⟨?_, ?_, ?_, ?_, ?_⟩, ⟨?_, ?_, ?_, ?_, ?_⟩, ⟨?_, ?_, ?_, ?_, ?_⟩, ⟨?_, ?_, ?_, ?_, ?_⟩⟩ <;> decide +kernel
section
variable {H : Hp} {p : Addr} {kvs : List (Key × V)} (hp : H p = some (.dK kvs))
include hp
theorem rm_tup {a : Addr} {xs : List V} (h : H a = some (.tup xs)) : rm p H a = some (.tup xs) := rm_get h (ne_of h hp (by intro z; cases z))
theorem ItV.rm {v : V} {o : Option Rw} (h : ItV H v o) : ItV (rm p H) v o := by
  cases h with
  | ok h1 h2 => exact .ok (rm_tup hp h1) h2
  | few h1 h2 h3 h4 h5 h6 => exact .few (rm_tup hp h1) h2 h3 h4 h5 h6
  | int h1 h2 => exact .int (rm_tup hp h1) h2
  | bl h1 h2 h3 h4 => exact .bl (rm_tup hp h1) h2 h3 h4
  | one h1 => exact .one (rm_tup hp h1)
  | txt x => exact .txt x
theorem Sq.rm {K : PySem.W.Frag} {v : V} {b : Bool} (h : Sq K H v b) (hb : b = false) : Sq K (rm p H) v false := by
  cases h with
  | non => exact .non
  | int i => exact .int i
  | str x => exact .str x
  | lst _ => cases hb
  | tup _ => cases hb
theorem AfV.rm {K : PySem.W.Frag} {v : V} {b : Bool} (h : AfV K H v b) : AfV K (Wq.rm p H) v b := by
  cases h with
  | no h => exact .no (h.rm hp rfl)
  | rows h1 h2 h3 h4 => exact .rows (rm_tup hp h1) ⟨h2.1, fun i v o a b => (h2.2 i v o a b).rm hp⟩ h3 h4
theorem PrtV.rm {K : PySem.W.Frag} {v : V} (h : PrtV K H v none) : PrtV K (Wq.rm p H) v none := by
  cases h with
  | bad h1 h2 => exact .bad (rm_tup hp h1) (h2.rm hp)
end
/-! joined parts -/
theorem cut_take {xs : List V} {n : Nat} (h : n ≤ xs.length) : cutV xs none (some (n : Int)) = xs.take n := by
  unfold cutV
  rw [HT.sIx_none, HT.sIx_nat, List.drop_zero, Nat.sub_zero, Nat.min_eq_left h]
theorem cut_drop {xs : List V} {n : Nat} (h : n ≤ xs.length) : cutV xs (some (n : Int)) none = xs.drop n := by
  unfold cutV
  rw [HT.sIx_none, HT.sIx_nat, Nat.min_eq_left h]
  exact List.take_of_length_le (by rw [List.length_drop]; exact Nat.le_refl _)
theorem prts_one {K : PySem.W.Frag} {H : Hp} {v : V} {o : Option Pt} (h : PrtV K H v o) : PrtsV K H [v] [o] := ⟨rfl, fun i u q h1 h2 => by
  match i, h1, h2 with
  | 0, h1, h2 =>
    obtain rfl := Option.some.inj h1
    obtain rfl := Option.some.inj h2
    exact h⟩
theorem prts_app {K : PySem.W.Frag} {H : Hp} {xs ys : List V} {os ps : List (Option Pt)} (h1 : PrtsV K H xs os) (h2 : PrtsV K H ys ps) : PrtsV K H (xs ++ ys) (os ++ ps) := by
  refine ⟨by rw [List.length_append, List.length_append, h1.1, h2.1], fun i v o e1 e2 => ?_⟩
  by_cases hi : i < xs.length
  · rw [List.getElem?_append_left hi] at e1
    rw [List.getElem?_append_left (by rw [← h1.1]; exact hi)] at e2
    exact h1.2 i v o e1 e2
  · rw [List.getElem?_append_right (by omega)] at e1
    rw [List.getElem?_append_right (by rw [← h1.1]; omega), ← h1.1] at e2
    exact h2.2 _ v o e1 e2
theorem prt_un {K : PySem.W.Frag} {H : Hp} {p : Addr} {v : V} {o : Option Pt} (h : PrtV K (rm p H) v o) : PrtV K H v o := h.same rm_le
structure OddV (K : PySem.W.Frag) (v : V) (d : PyData) (t : String) : Prop where
  ov : ∀ H, OV K H v d t
  no : fInt d = false ∨ ∃ i, v = .int i ∧ i < 1
  dp : ∀ H, Dp K H v d
  lay : (PyData.tuple [.str "k", d]).canLay0 = true ∧ (PyData.tuple [.str "k", d]).depth ≤ 64
theorem odd_ok {K : PySem.W.Frag} {i : Nat} {v : V} (h : [V.int 0, V.int (-1), V.non, V.bl true, V.str "1"][i]? = some v) : ∃ d t, OddV K v d t := by
  match i, h with
  | 0, h =>
    obtain rfl := Option.some.inj h
    exact ⟨_, _, fun H => .int 0 (by decide), .inr ⟨0, rfl, by decide⟩, fun H => .int 0, by decide +kernel, by decide +kernel⟩
  | 1, h =>
    obtain rfl := Option.some.inj h
    exact ⟨_, _, fun H => .int (-1) (by decide), .inr ⟨-1, rfl, by decide⟩, fun H => .int (-1), by decide +kernel, by decide +kernel⟩
  | 2, h =>
    obtain rfl := Option.some.inj h
    exact ⟨_, _, fun H => .non, .inl rfl, fun H => .non, by decide +kernel, by decide +kernel⟩
  | 3, h =>
    obtain rfl := Option.some.inj h
    exact ⟨_, _, fun H => .bl true, .inl rfl, fun H => .bl true, by decide +kernel, by decide +kernel⟩
  | 4, h =>
    obtain rfl := Option.some.inj h
    exact ⟨_, _, fun H => .str "1" (by decide +kernel) (by decide +kernel), .inl rfl, fun H => .str "1", by decide +kernel, by decide +kernel⟩
theorem rowsD_ok (n : Nat) : (PyData.tuple [.str "rows", .int (n : Int)]).canLay0 = true ∧ (PyData.tuple [.str "rows", .int (n : Int)]).depth ≤ 64 := by
  constructor
  · simp only [PyData.canLay0, PyData.canLayAll0, Bool.and_true, Bool.true_and]
    decide +kernel
  · simp [PyData.depth, PyData.depthAll]
end Wq
set_option Elab.async false
set_option linter.all false
set_option maxRecDepth 100000
set_option maxHeartbeats 1500000
namespace Wq
open PySem PySem.Spec PyProof.Rows L2
open Kd (Pt Rw told most lm sumO least mostO lmost below ahead sureL openL lsure lopen enc leR leD)
/-! the law -/
abbrev sLaw : Stmt := top 24
abbrev NLaw : List Str := ["_law_script", "_law_pen_here", "_law_parts", "_law_k", "_law_names", "_law_rows", "_law_whole", "_law_pool", "_law_sure", "_law_left", "_law_text", "_law_totals", "_law_least", "_law_most_here", "_law_ahead", "_law_due", "_law_turn", "_law_wrong", "_law_at", "_law_odd", "_law_row", "_law_one", "_law_many"]
theorem scLaw : FnScope NLaw ["_law_script"] (defScope sLaw) := ⟨rfl, rfl, rfl, by decide +kernel, rfl, by decide +kernel, by decide +kernel⟩
theorem passX {X : Cx} : Passes (L2.CX X.prog X.w) X E0 := fun _ _ _ _ _ _ _ ⟨_, _, _, _, _, _, _, _, _, _, _, _, h⟩ => h.elim
def spLaw (K : PySem.W.Frag) : Sp := fun vs H Q _ => ∃ (a : Addr) (ns : List Int), vs = [.ref a] ∧ SqL K H a (ns.map V.int) ∧ ∀ H', Q (.bl true) H'
section
variable {P : Program} {w : World} {K : PySem.W.Frag} {mg : Str → Option Value} {base : Heap} {CR CN : Addr}
theorem ok_law {fa : Addr} {fd : FuncData} (F : Fun K "law" "law" sLaw fa fd) (T : Txt K mg) (Tx : TxtX mg) (TA : TxtA mg) (CPen : Cl P w K mg base 1 "_law_pen" (spPen K)) (CD : Cl P w K mg base 1 "_law_draw" (spDraw K)) (CP : Cl P w K mg base 2 "_law_pick" (spPick K))
    (CLP : Cl P w K mg base 3 "_law_part" (spLP K)) (CW : Cl P w K mg base 2 "_law_ways" spLW) (CLD : Cl P w K mg base 2 "_law_drawn_way" spLD) (CLT : Cl P w K mg base 5 "_law_told" (spLT K)) (CS : Cle P w K mg base 4 "sure_first" (spSF K CR CN)) :
    FnOk P w K mg base CX0 6 fa fd ["_law_script"] (spLaw K) := by
  obtain ⟨fS, fdS, psS, GS, hmS, kpS, bS⟩ := CS.ex
  refine F.ok scLaw (fun vs H Q E h => ?_) (fun cdv A outer s H vs Q E hr h => ?_)
  · obtain ⟨a, ns, rfl, _⟩ := h
    rfl
  obtain ⟨a, ns, rfl, hS, k⟩ := h
  have hU := hu_of hr
  have r1 : Room 1 _ := hr.mono (by decide)
  refine ⟨_, C8.pss_cut (ps_set (i := 1) scLaw.nd rfl (Or.inr rfl) (pe_cl CPen hr (by decide) rfl (pa_cons (pv 0) pa_nil)))
(C8.pss_cut (ps_setLc (i := 2) (own := [("_law_turn", 16)]) (g := gName 16) (tt := tYes) (by rfl) scLaw.nd rfl rfl (sw_true rfl rfl rfl (by decide +kernel)) (pi_range1 rfl (by exact T.range) (pa_cons (pe_op op_add pe_int (pe_cl CD hr (by decide) rfl (pa_cons (pv 1) (pa_cons pe_int pa_nil)))) pa_nil)) (blkOk_by (own := [("_law_turn", 16)]) (N := NLaw) (sc := defScope sLaw) (by decide +kernel)) (fun _ _ _ _ _ => (pg_name (i := 16) scLaw.nd rfl (Or.inl rfl))) (fun _ _ _ _ _ => pts_nil) (fun _ _ _ _ _ => (pe_cl CLP hr (by decide) rfl (pa_cons (pv 1) pa_nil))))
(C8.pss_cut (ps_set (i := 3) scLaw.nd rfl (Or.inl rfl) (pe_op op_add pe_int (pe_cl CD hr (by decide) rfl (pa_cons (pv 1) (pa_cons pe_int pa_nil)))))
(C8.pss_cut (ps_set (i := 4) scLaw.nd rfl (Or.inl rfl) (pe_lst pa_nil))
(C8.pss_cut (ps_for PassesOwn.never rfl (pi_list (pv 2)) (pg_tup (by rfl) (pgs_cons (pg_name (i := 5) scLaw.nd rfl (Or.inl rfl)) (pgs_cons (pg_name (i := 6) scLaw.nd rfl (Or.inl rfl)) pgs_nil)))
(pss_one (ps_set (i := 4) scLaw.nd rfl (Or.inl rfl) (pe_op op_cat (pv 4) (pe_lc (own := [("_law_row", 20)]) (g := gName 20) (tt := tYes) (te := tOp (rIxT K) (tVar 20) (tC (.int 0))) (by rfl) scLaw.nd (pi_tup (pv 5)) (blkOk_by (own := [("_law_row", 20)]) (N := NLaw) (sc := defScope sLaw) (by decide +kernel)) (fun _ _ _ _ _ => (pg_name (i := 20) scLaw.nd rfl (Or.inl rfl))) (fun _ _ _ _ _ => pts_nil) (fun _ _ _ _ _ => (pe_ix ix_tup (pv 20) pe_int (fun _ _ => rfl))))))))
(C8.pss_cut (ps_set (i := 4) scLaw.nd rfl (Or.inl rfl) (pe_callB (TX.cr_sortX rfl) (by rfl) (by exact TA.sorted) (by decide +kernel) (pa_cons (pe_callTy (TX.cr_setX rfl) (by rfl) (by exact Tx.set) (by decide +kernel) (pa_cons (pv 4) pa_nil)) pa_nil)))
(C8.pss_cut (ps_set (i := 7) scLaw.nd rfl (Or.inl rfl) (pe_op op_cat (pv 4) (pe_lc (own := [("_law_turn", 16)]) (g := gName 16) (tt := tYes) (by rfl) scLaw.nd (pi_range1 rfl (by exact T.range) (pa_cons (pv 3) pa_nil)) (blkOk_by (own := [("_law_turn", 16)]) (N := NLaw) (sc := defScope sLaw) (by decide +kernel)) (fun _ _ _ _ _ => (pg_name (i := 16) scLaw.nd rfl (Or.inl rfl))) (fun _ _ _ _ _ => pts_nil) (fun _ _ _ _ _ => (pe_op op_add_str pe_str (pe_op op_sgz pe_str (pv 16)))))))
(C8.pss_cut (ps_par (i := 8) (j := 9) (by rfl) scLaw.nd rfl rfl (by decide) rfl rfl  (pa_cons (pe_lst pa_nil) (pa_cons (pe_lst pa_nil) pa_nil)) (by rfl))
(C8.pss_cut (ps_for PassesOwn.never rfl (pi_list (pv 4)) (pg_name (i := 10) scLaw.nd rfl (Or.inr rfl))
(pss_cons (ps_asg (pe_cl CW hr (by decide) rfl (pa_cons (pv 2) (pa_cons (pv 10) (pa_cons (pv 7) pa_nil)))) (pg_tup (by rfl) (pgs_cons (pg_name (i := 11) scLaw.nd rfl (Or.inr rfl)) (pgs_cons (pg_name (i := 12) scLaw.nd rfl (Or.inr rfl)) (pgs_cons (pg_name (i := 13) scLaw.nd rfl (Or.inr rfl)) pgs_nil)))))
(pss_cons (ps_if (pt_cmpR op_lt (pe_callB call_len_seq (by rfl) (by exact T.len) PySem.boot_len (pa_cons (pe_lc (own := [("_law_one", 21), ("_law_many", 22)]) (g := gTup K 2 (gCons (gName 21) (gCons (gName 22) gNil))) (by rfl) scLaw.nd (pi_list (pv 11)) (blkOk_by (own := [("_law_one", 21), ("_law_many", 22)]) (N := NLaw) (sc := defScope sLaw) (by decide +kernel)) (fun _ _ _ _ _ => (pg_tup (by rfl) (pgs_cons (pg_name (i := 21) scLaw.nd rfl (Or.inl rfl)) (pgs_cons (pg_name (i := 22) scLaw.nd rfl (Or.inl rfl)) pgs_nil)))) (fun _ _ _ _ _ => (pts_one (PW.pt (pw_and (pt_cmpR op_ne (pv 21) (pv 10) (nomark _)) (pw_and1 (pt_cmpR op_ge (pv 22) (pe_dget hU (pv 12) (pv 10) (fun _ _ => rfl)) (nomark _))))))) (fun _ _ _ _ _ => (pv 21))) pa_nil)) (pv 3) (nomark _))
(pss_cons (ps_expr (pe_bm PySem.F.plainAttrs_list PySem.F.slot_list_append PySem.F.type_list_append mt_append (pv 8) (pa_cons (pv 10) pa_nil)))
(pss_one (ps_continue)))
pss_nil)
(pss_cons (ps_setLc (i := 14) (own := [("_law_one", 21)]) (g := gName 21) (by rfl) scLaw.nd rfl rfl (sw_true rfl rfl rfl (by decide +kernel)) (pi_list (pv 4)) (blkOk_by (own := [("_law_one", 21)]) (N := NLaw) (sc := defScope sLaw) (by decide +kernel)) (fun _ _ _ _ _ => (pg_name (i := 21) scLaw.nd rfl (Or.inl rfl))) (fun _ _ _ _ _ => (pts_one (PW.pt (pw_and (pt_cmpR op_ne (pv 21) (pv 10) (nomark _)) (pw_and1 (pt_cmpR op_ge (pe_dget hU (pv 12) (pv 21) (fun _ _ => rfl)) (pe_dget hU (pv 13) (pv 10) (fun _ _ => rfl)) (nomark _))))))) (fun _ _ _ _ _ => (pv 21)))
(pss_one (ps_if (PW.pt (pw_or (pt_cmpR op_lt (pe_callB call_len_seq (by rfl) (by exact T.len) PySem.boot_len (pa_cons (pv 14) pa_nil)) (pv 3) (nomark _)) (pw_or1 (pt_cmpR op_gt (pe_dget hU (pv 13) (pv 10) (fun _ _ => rfl)) pe_int (nomark _)))))
(pss_one (ps_expr (pe_bm PySem.F.plainAttrs_list PySem.F.slot_list_append PySem.F.type_list_append mt_append (pv 9) (pa_cons (pv 10) pa_nil))))
pss_nil))))))
(C8.pss_cut (ps_set (i := 15) scLaw.nd rfl (Or.inl rfl) (pe_tup (pa_cons (pe_callTy call_tuple_of (by rfl) (by exact T.tuple) (by decide +kernel) (pa_cons (pv 8) pa_nil)) (pa_cons (pe_callTy call_tuple_of (by rfl) (by exact T.tuple) (by decide +kernel) (pa_cons (pv 9) pa_nil)) pa_nil))))
(C8.pss_cut (ps_if (PW.pt (pw_or (pt_cmpR (op_neD (hu64 hr)) (pe_call GS (hr.mono (by decide)) rfl hmS kpS bS .nil passX (pa_cons (pv 2) (pa_cons (pv 3) pa_nil))) (pv 15) (nomark _)) (pw_or1 (pt_cmpR (op_neD (hu64 hr)) (pe_call GS (hr.mono (by decide)) rfl hmS kpS bS .nil passX (pa_cons (pe_callTy call_tuple_of (by rfl) (by exact T.tuple) (by decide +kernel) (pa_cons (pe_revL (pv 2)) pa_nil)) (pa_cons (pv 3) pa_nil))) (pv 15) (nomark _)))))
(pss_one (ps_ret pe_bl))
pss_nil)
(C8.pss_cut (ps_for PassesOwn.never rfl (pi_range1 rfl (by exact T.range) (pa_cons pe_int pa_nil)) (pg_name (i := 16) scLaw.nd rfl (Or.inl rfl))
(pss_cons (ps_set (i := 11) scLaw.nd rfl (Or.inr rfl) (pe_cl CLD hr (by decide) rfl (pa_cons (pv 1) (pa_cons (pv 2) (pa_cons (pv 7) pa_nil)))))
(pss_one (ps_for PassesOwn.never rfl (pi_list (pv 8)) (pg_name (i := 10) scLaw.nd rfl (Or.inr rfl))
(pss_one (ps_if (pt_cmpR op_ge (pe_callB call_len_seq (by rfl) (by exact T.len) PySem.boot_len (pa_cons (pe_lc (own := [("_law_one", 21)]) (g := gName 21) (by rfl) scLaw.nd (pi_list (pv 7)) (blkOk_by (own := [("_law_one", 21)]) (N := NLaw) (sc := defScope sLaw) (by decide +kernel)) (fun _ _ _ _ _ => (pg_name (i := 21) scLaw.nd rfl (Or.inl rfl))) (fun _ _ _ _ _ => (pts_one (PW.pt (pw_and (pt_cmpR op_ne (pv 21) (pv 10) (nomark _)) (pw_and1 (pt_cmpR op_ge (pe_dget hU (pv 11) (pv 21) (fun _ _ => rfl)) (pe_dget hU (pv 11) (pv 10) (fun _ _ => rfl)) (nomark _))))))) (fun _ _ _ _ _ => (pv 21))) pa_nil)) (pv 3) (nomark _))
(pss_one (ps_ret pe_bl))
pss_nil))))))
(C8.pss_cut (ps_set (i := 17) scLaw.nd rfl (Or.inl rfl) (pe_lst (pa_cons (pe_tup (pa_cons (pe_tup (pa_cons (pe_tup (pa_cons pe_str (pa_cons pe_int pa_nil))) pa_nil)) (pa_cons pe_bl pa_nil))) (pa_cons (pe_tup (pa_cons (pe_tup (pa_cons (pe_tup (pa_cons pe_str (pa_cons pe_int pa_nil))) (pa_cons (pe_tup (pa_cons pe_str (pa_cons pe_int pa_nil))) pa_nil))) (pa_cons pe_bl pa_nil))) (pa_cons (pe_tup (pa_cons (pe_tup (pa_cons (pe_tup (pa_cons pe_str (pa_cons pe_int pa_nil))) (pa_cons (pe_tup (pa_cons pe_str (pa_cons pe_int pa_nil))) pa_nil))) (pa_cons pe_bl pa_nil))) pa_nil)))))
(C8.pss_cut (ps_set (i := 17) scLaw.nd rfl (Or.inl rfl) (pe_op op_cat (pv 17) (pe_lst (pa_cons (pe_tup (pa_cons (pe_tup (pa_cons (pe_tup (pa_cons pe_str (pa_cons pe_int pa_nil))) (pa_cons (pe_tup (pa_cons pe_str (pa_cons pe_int pa_nil))) pa_nil))) (pa_cons pe_bl pa_nil))) (pa_cons (pe_tup (pa_cons (pe_tup (pa_cons (pe_tup (pa_cons pe_int (pa_cons pe_int pa_nil))) pa_nil)) (pa_cons pe_bl pa_nil))) (pa_cons (pe_tup (pa_cons (pe_tup (pa_cons (pe_tup (pa_cons pe_str (pa_cons pe_bl pa_nil))) pa_nil)) (pa_cons pe_bl pa_nil))) pa_nil))))))
(C8.pss_cut (ps_set (i := 17) scLaw.nd rfl (Or.inl rfl) (pe_op op_cat (pv 17) (pe_lst (pa_cons (pe_tup (pa_cons (pe_tup (pa_cons (pe_tup (pa_cons pe_str pa_nil)) pa_nil)) (pa_cons pe_bl pa_nil))) (pa_cons (pe_tup (pa_cons (pe_tup (pa_cons pe_str pa_nil)) (pa_cons pe_bl pa_nil))) (pa_cons (pe_tup (pa_cons pe_int (pa_cons pe_bl pa_nil))) (pa_cons (pe_tup (pa_cons pe_non (pa_cons pe_bl pa_nil))) pa_nil)))))))
(C8.pss_cut (ps_set (i := 18) scLaw.nd rfl (Or.inl rfl) (pe_cl CD hr (by decide) rfl (pa_cons (pv 1) (pa_cons (pe_op op_add (pe_callB call_len_seq (by rfl) (by exact T.len) PySem.boot_len (pa_cons (pv 2) pa_nil)) pe_int) pa_nil))))
(C8.pss_cut (ps_if (pt_cmpR (op_neD (hu64 hr)) (pe_cl CLT hr (by decide) rfl (pa_cons (pe_op op_cat (pe_op op_cat (pe_op op_cat (pe_slice sl_list (pv 2) po_none (po_some (pv 18))) (pe_lst (pa_cons (pe_cl CP hr (by decide) rfl (pa_cons (pv 1) (pa_cons (pv 17) pa_nil))) pa_nil))) (pe_slice sl_list (pv 2) (po_some (pv 18)) po_none)) (pe_lst (pa_cons (pe_ix ix_list (pv 17) pe_int (fun _ _ => rfl)) pa_nil))) (pa_cons pe_int pa_nil))) (pe_tup (pa_cons pe_str (pa_cons (pv 18) pa_nil))) (nomark _))
(pss_one (ps_ret pe_bl))
pss_nil)
(C8.pss_cut (ps_set (i := 19) scLaw.nd rfl (Or.inl rfl) (pe_cl CP hr (by decide) rfl (pa_cons (pv 1) (pa_cons (pe_lst (pa_cons pe_int (pa_cons (pe_un un_neg pe_int) (pa_cons pe_non (pa_cons pe_bl (pa_cons pe_str pa_nil)))))) pa_nil))))
(pss_one (ps_ret (pe_cmpR (op_eqD (hu64 hr)) (pe_cl CLT hr (by decide) rfl (pa_cons (pv 2) (pa_cons (pv 19) pa_nil))) (pe_tup (pa_cons pe_str (pa_cons (pv 19) pa_nil))) (nomark _))))))))))))))))))))), ?_⟩
  have sz0 : 0 ≤ sizeLine := Nat.zero_le _
  have sz9 : ∀ n, n ≤ 10 → n ≤ sizeLine := fun n h => by rw [sizeLine_eq]; omega
  -- the pen
  refine ⟨fun σ G => ∃ (p c : Addr), σ = [some (.ref a), some (.ref p), none, none, none, none, none, none, none, none, none, none, none, none, none, none, none, none, none, none, none, none, none] ∧ PenAt G p c 0, ?_, ?_⟩
  · exact ⟨_, rfl, a, ns, rfl, hS, fun p c H' _ s hP => ⟨p, c, rfl, hP⟩⟩
  rintro σ G1 ⟨p, c, rfl, hP1⟩
  -- the parts
  refine ⟨fun σ G => ∃ (lp : Addr) (zs : List Lz), σ = [some (.ref a), some (.ref p), some (.ref lp), none, none, none, none, none, none, none, none, none, none, none, none, none, none, none, none, none, none, none, none] ∧ LwA p c 60 lp zs G ∧ 1 ≤ zs.length ∧ zs.length ≤ 3, ?_, ?_⟩
  · refine ⟨_, rfl, p, c, 0, 3, rfl, hP1, by decide, by decide, log_ok (by decide), fun v o a0 b0 hP => ⟨_, _, rfl, rfl, (1 + v), rfl, by omega, by omega, fun Dd hD => ?_⟩⟩
    have nDp := hP.nb hD
    have nDc : Dd ≠ c := (ne_of_none hP.cells.choose_spec hD).symm
    generalize upd G1 p o = G2 at hP hD
    refine lc_range (lo := 0) (n := (1 + v).toNat) (fun i G => ∃ zs : List Lz, zs.length = i ∧ PenAt G p c (1 + 16 * i) ∧ G Dd = some (.lst (zs.map fun z => V.ref z.1)) ∧ ∀ z ∈ zs, PtA (rm p G) z.1 z.2)
      ⟨[], rfl, hP.new hD, upd_same, fun z hz => by cases hz⟩ ?_ ?_
    · rintro i G hi ⟨zs, hl, hp, hG, hA⟩
      refine ⟨rfl, ?_⟩
      simp only [tYes, if_true]
      refine ⟨_, rfl, p, c, _, rfl, hp, by omega, fun t G3 pt hp3 s3 hpt ok => ?_⟩
      have hD3 := (s3 _ _ (rm_get hG nDp))
      refine ⟨_, (rm_of hD3).2, ?_, zs ++ [(t, pt)], ?_, ?_, ?_, fun z hz => ?_⟩
      · rw [List.length_map, sizeLine_eq]
        omega
      · rw [List.length_append, hl]
        rfl
      · exact (hp3.put nDp.symm nDc.symm).mono (by omega)
      · rw [upd_same, List.map_append]
        rfl
      · rw [rm_upd nDp]
        rcases List.mem_append.mp hz with hz | hz
        · exact ((hA z hz).same s3).put hD3
        · rw [List.mem_singleton.mp hz]
          exact (PtA.of hpt ok).put hD3
    · rintro G ⟨zs, hl, hp, hG, hA⟩
      exact ⟨Dd, zs, rfl, ⟨hp.mono (by omega), ⟨rm_get hG nDp, hA⟩⟩, by omega, by omega⟩
  rintro σ G2 ⟨lp, zs, rfl, L2, hz1, hz3⟩
  -- the number
  refine ⟨fun σ G => ∃ kk : Int, σ = [some (.ref a), some (.ref p), some (.ref lp), some (.int kk), none, none, none, none, none, none, none, none, none, none, none, none, none, none, none, none, none, none, none] ∧ LwA p c 61 lp zs G ∧ 1 ≤ kk ∧ kk ≤ 4, ?_, ?_⟩
  · exact ⟨_, rfl, p, c, 60, 4, rfl, L2.pen, by decide, by decide, log_ok (by decide), fun v o a0 b0 hP => ⟨_, _, rfl, rfl, _, rfl, L2.drawn hP, by omega, by omega⟩⟩
  rintro σ G3 ⟨kk, rfl, L3, hk1, hk4⟩
  -- names
  refine ⟨fun σ G => ∃ ln : Addr, σ = [some (.ref a), some (.ref p), some (.ref lp), some (.int kk), some (.ref ln), none, none, none, none, none, none, none, none, none, none, none, none, none, none, none, none, none, none] ∧ LwA p c 61 lp zs G ∧ G ln = some (.lst []), ?_, ?_⟩
  · exact ⟨sz0, fun l0 hl0 => ⟨l0, rfl, L3.same (Same.new hl0), upd_same⟩⟩
  rintro σ G4 ⟨ln, rfl, L4, hln⟩
  have hzl : (zs.map fun z => V.ref z.1).length = zs.length := List.length_map _
  have okz : ∀ z ∈ zs, LPt z.2 := fun z hz => (L4.ls.at_ z hz).ok
  refine ⟨fun σ G => ∃ (ln : Addr) (x5 x6 : Option V), σ = [some (.ref a), some (.ref p), some (.ref lp), some (.int kk), some (.ref ln), x5, x6, none, none, none, none, none, none, none, none, none, none, none, none, none, none, none, none] ∧ LwA p c 61 lp zs G ∧ G ln = some (.lst ((nmz zs).map V.str)), ?_, ?_⟩
  · refine ⟨_, rfl, lp, rfl, ⟨_, .inl (.inl L4.lsG.lst)⟩, for_list (K := K) (a := lp) (xs := zs.map fun z => V.ref z.1) (fun i σ G => ∃ (ln : Addr) (x5 x6 : Option V), σ = [some (.ref a), some (.ref p), some (.ref lp), some (.int kk), some (.ref ln), x5, x6, none, none, none, none, none, none, none, none, none, none, none, none, none, none, none, none] ∧ LwA p c 61 lp zs G ∧ G ln = some (.lst ((nmz (zs.take i)).map V.str)))
      ⟨ln, none, none, rfl, L4, hln⟩ (fun i σ G _ ⟨_, _, _, _, h, _⟩ => .inl (.inl h.lsG.lst)) ?_ ?_⟩
    · rintro i v σ G hv ⟨ln, x5, x6, rfl, L, hln⟩
      obtain ⟨z, ez, rfl, mz⟩ := zat hv
      have hi : i < zs.length := (List.getElem?_eq_some_iff.mp ez).1
      obtain ⟨r, as, h1, h2, h3⟩ := (L.lsG.at_ z mz).ex
      have hln1 : (as.map V.ref).length = z.2.rows.length := by rw [List.length_map, h3.len]
      refine ⟨z.1, _, rfl, .inl (.inl h1), rfl, _, _, rfl, _, _, rfl, rfl, ?_⟩
      refine ⟨_, rfl, _, rfl, r, rfl, ⟨_, .inl (.inl h2)⟩, fun D hD => ?_⟩
      refine lc_tup (K := K) (a := r) (xs := as.map V.ref) (fun j G' => Same G G' ∧ G' D = some (.lst (((z.2.rows.take j).map (·.1)).map V.str))) ⟨Same.new hD, upd_same⟩ (fun j G' _ h => .inl (.inl (h.1 _ _ h2))) ?_ ?_
      · rintro j v G' hv ⟨s', hD'⟩
        obtain ⟨b, q, rfl, hq, hb⟩ := h3.get hv
        have hj := (List.getElem?_eq_some_iff.mp hq).1
        have := (okz z mz).few
        refine ⟨rfl, ?_⟩
        simp only [tYes, if_true]
        refine ⟨_, rfl, b, _, 0, .str q.1, rfl, rfl, .inl (.inl (s' _ _ hb)), rfl, _, hD', ?_, Same.put s' hD, ?_⟩
        · rw [List.length_map, List.length_map, List.length_take, sizeLine_eq]
          omega
        · rw [upd_same, List.take_add_one, hq, List.map_append, List.map_append]
          rfl
      · rintro G' ⟨s', hD'⟩
        rw [hln1, List.take_length] at hD'
        refine ⟨ln, D, _, _, rfl, rfl, s' _ _ hln, hD', ?_, fun q hq => ?_⟩
        · have e1 := nmz_len (zs := zs.take i) fun y hy => okz y (List.mem_of_mem_take hy)
          have e2 := (okz z mz).few
          rw [List.length_take] at e1
          rw [List.length_map, List.length_map, List.length_map, sizeLine_eq]
          omega
        · refine ⟨q, _, _, rfl, L.same (s'.trans (Same.new hq)), ?_⟩
          rw [upd_same, nmz_take ez, List.map_append]
    · rintro σ G ⟨ln, x5, x6, rfl, L, h⟩
      rw [hzl, List.take_length] at h
      exact ⟨ln, x5, x6, rfl, L, h⟩
  rintro σ G5 ⟨ln5, x5, x6, rfl, L5, hln5⟩

  have hnl : (nmz zs).length ≤ 15 := by
    have := nmz_len okz
    omega
  refine ⟨fun σ G => ∃ (ln : Addr) (ys : List Str), σ = [some (.ref a), some (.ref p), some (.ref lp), some (.int kk), some (.ref ln), x5, x6, none, none, none, none, none, none, none, none, none, none, none, none, none, none, none, none] ∧ LwA p c 61 lp zs G ∧ G ln = some (.lst (ys.map V.str)) ∧ sortedS ys = true ∧ ys.Nodup ∧ ∀ x, x ∈ ys ↔ x ∈ nmz zs, ?_, ?_⟩
  · refine ⟨_, rfl, ln5, _, rfl, .inl (.inl hln5), by omega, fun sa hsa => ⟨sa, _, rfl, upd_same, by omega, fun ys q hs hnd hm hq => ?_⟩⟩
    exact ⟨q, ys, rfl, (L5.same (Same.new hsa)).same (Same.new hq), upd_same, hs, hnd, hm⟩
  rintro σ G6 ⟨ln, ys, rfl, L6, hln6, hys, hnd, hmem⟩
  have hya : ∀ x ∈ ys, x ∈ abc := fun x hx => nmz_abc okz ((hmem x).mp hx)
  have hyl : ys.length ≤ 5 := sub_len (m := abc) hnd hya
  -- the pool
  refine ⟨fun σ G => ∃ (lq : Addr), σ = [some (.ref a), some (.ref p), some (.ref lp), some (.int kk), some (.ref ln), x5, x6, some (.ref lq), none, none, none, none, none, none, none, none, none, none, none, none, none, none, none] ∧ LwA p c 61 lp zs G ∧ G ln = some (.lst (ys.map V.str)) ∧ G lq = some (.lst ((ys ++ zzs kk.toNat).map V.str)), ?_, ?_⟩
  · refine ⟨_, rfl, _, rfl, kk, rfl, by omega, by omega, fun D hD => ?_⟩
    refine lc_range (lo := 0) (n := kk.toNat) (fun i G => Same G6 G ∧ G D = some (.lst ((zzs i).map V.str))) ⟨Same.new hD, upd_same⟩ ?_ ?_
    · rintro i G hi ⟨s', hD'⟩
      refine ⟨rfl, ?_⟩
      simp only [tYes, if_true]
      refine ⟨_, rfl, 122, i, by decide +kernel, by rw [Int.zero_add], by omega, _, _, rfl, rfl, ?_, _, hD', ?_, Same.put s' hD, ?_⟩
      · rw [Sz_len, List.length_replicate, sizeLine_eq, show (Str.ofString "zz").length = 2 by decide +kernel]
        omega
      · rw [List.length_map]
        unfold zzs
        rw [List.length_map, List.length_range, sizeLine_eq]
        omega
      · rw [upd_same]
        unfold zzs
        rw [List.range_succ, List.map_append, List.map_append]
        rfl
    · rintro G ⟨s', hD'⟩
      refine ⟨ln, D, _, _, rfl, rfl, s' _ _ hln6, hD', ?_, fun q hq => ?_⟩
      · unfold zzs
        rw [List.length_map, List.length_map, List.length_map, List.length_range, sizeLine_eq]
        omega
      · refine ⟨q, rfl, (L6.same s').same (Same.new hq), Same.new hq _ _ (s' _ _ hln6), ?_⟩
        rw [upd_same, List.map_append]
  rintro σ G7 ⟨lq, rfl, L7, hln7, hlq7⟩
  have hpnd := pool_nd (k := kk.toNat) hnd hya
  have hzk : (zzs kk.toNat).length = kk.toNat := by
    unfold zzs
    rw [List.length_map, List.length_range]
  have hpl : (ys ++ zzs kk.toNat).length ≤ 40 := by
    rw [List.length_append, hzk]
    omega
  have hpin := pool_in (k := kk.toNat) hmem
  have hout := zzs_out (k := kk.toNat) okz hya
  generalize zzs kk.toNat = ws at hzk hlq7 hpnd hpl hpin hout
  -- sure and left
  refine ⟨fun σ G => ∃ (ls lo : Addr), σ = [some (.ref a), some (.ref p), some (.ref lp), some (.int kk), some (.ref ln), x5, x6, some (.ref lq), some (.ref ls), some (.ref lo), none, none, none, none, none, none, none, none, none, none, none, none, none] ∧ Same G7 G ∧ G ls = some (.lst []) ∧ G lo = some (.lst []) ∧ G7 ls = none ∧ G7 lo = none ∧ ls ≠ lo, ?_, ?_⟩
  · refine ⟨sz0, fun l1 h1 => ⟨sz0, fun l2 h2 => ⟨_, _, rfl, l1, l2, rfl, (Same.new h1).trans (Same.new h2), ?_, upd_same, h1, ?_, ?_⟩⟩⟩
    · exact Same.new h2 _ _ upd_same
    · by_cases e : l2 = l1
      · subst e
        exact h1
      · rw [upd_ne e] at h2
        exact h2
    · intro e
      subst e
      rw [upd_same] at h2
      cases h2
  rintro σ G8 ⟨ls, lo, rfl, s8, hls8, hlo8, hls0, hlo0, nso⟩

  have hyl' : (ys.map V.str).length = ys.length := List.length_map _
  have okd : ∀ q ∈ zs.map (·.2), Kd.Ok q := fun q hq => by
    obtain ⟨z, hz, rfl⟩ := List.mem_map.mp hq
    exact (okz z hz).okd
  refine ⟨fun σ G => ∃ (x10 x11 x12 x13 x14 : Option V), σ = [some (.ref a), some (.ref p), some (.ref lp), some (.int kk), some (.ref ln), x5, x6, some (.ref lq), some (.ref ls), some (.ref lo), x10, x11, x12, x13, x14, none, none, none, none, none, none, none, none] ∧ Same G7 G ∧ G ls = some (.lst ((ys.filter (lsure ys ws (zs.map (·.2)) kk)).map V.str)) ∧ G lo = some (.lst ((ys.filter (dueL ys ws (zs.map (·.2)) kk)).map V.str)), ?_, ?_⟩
  · refine ⟨_, rfl, ln, rfl, ⟨_, .inl (.inl (s8 _ _ hln7))⟩, for_list (K := K) (a := ln) (xs := ys.map V.str) (fun i σ G => ∃ (x10 x11 x12 x13 x14 : Option V), σ = [some (.ref a), some (.ref p), some (.ref lp), some (.int kk), some (.ref ln), x5, x6, some (.ref lq), some (.ref ls), some (.ref lo), x10, x11, x12, x13, x14, none, none, none, none, none, none, none, none] ∧ Same G7 G ∧ G ls = some (.lst (((ys.take i).filter (lsure ys ws (zs.map (·.2)) kk)).map V.str)) ∧ G lo = some (.lst (((ys.take i).filter (dueL ys ws (zs.map (·.2)) kk)).map V.str)))
      ⟨none, none, none, none, none, rfl, s8, hls8, hlo8⟩ (fun i σ G _ ⟨_, _, _, _, _, _, h, _⟩ => .inl (.inl (h _ _ hln7))) ?_ ?_⟩
    · rintro i v σ G hv ⟨x10, x11, x12, x13, x14, rfl, sG, hls, hlo⟩
      obtain ⟨y, ey, rfl⟩ := yat hv
      have my := List.mem_of_getElem? ey
      have hyp : y ∈ ys ++ ws := List.mem_append_left _ my
      rw [filt_take ey, filt_take ey]
      have fl1 := filt_len (ys := ys) (P := lsure ys ws (zs.map (·.2)) kk) (i := i)
      have fl2 := filt_len (ys := ys) (P := dueL ys ws (zs.map (·.2)) kk) (i := i)
      refine ⟨_, rfl, _, rfl, _, rfl, lp, lq, y, zs, ys ++ ws, rfl, (L7.same sG).lsG, by omega, sG _ _ hlq7, hpnd, hpl, hpin, fun t lt dl dm ts G1 s1 ht hlt hPr hdl hdm => ?_⟩
      refine ⟨t, _, rfl, .inl (.inl ht), rfl, _, _, rfl, _, _, rfl, _, _, rfl, rfl, ?_⟩
      have l_get : ∀ {G' : Hp} {x : Str}, Same G1 G' → x ∈ ys ++ ws → DGet G' dl (.str x) (some (.int (least (zs.map (·.2)) x))) := fun {G' x} s hx => by
        have := DGet.k (k := Sum.inr x) (s _ _ hdl)
        rw [valV_dO hx] at this
        exact this
      have m_get : ∀ {G' : Hp} {x : Str}, Same G1 G' → x ∈ ys ++ ws → DGet G' dm (.str x) (some (.int (lmost (zs.map (·.2)) x))) := fun {G' x} s hx => by
        have := DGet.k (k := Sum.inr x) (s _ _ hdm)
        rw [valV_dO hx] at this
        exact this
      have hls1 := s1 _ _ hls
      have hlo1 := s1 _ _ hlo
      refine ⟨_, rfl, lt, rfl, ⟨_, .inl (.inl hlt)⟩, fun D hD => ?_⟩
      have hG0 := sG.trans s1
      refine lc_list (K := K) (a := lt) (xs := ts.map V.ref) (fun j G' => Same G1 G' ∧ G' D = some (.lst ((((ys ++ ws).take j).filter fun o => decide (o ≠ y) && decide (least (zs.map (·.2)) y ≤ lmost (zs.map (·.2)) o)).map V.str))) ⟨Same.new hD, upd_same⟩ (fun j G' _ h => .inl (.inl (h.1 _ _ hlt))) ?_ ?_
      · rintro j v G' hv' ⟨s', hD'⟩
        rw [List.getElem?_map] at hv'
        cases et : ts[j]? with
        | none => rw [et] at hv'; cases hv'
        | some b =>
        rw [et] at hv'
        obtain rfl := Option.some.inj hv'
        have hj : j < (ys ++ ws).length := by rw [← hPr.len]; exact (List.getElem?_eq_some_iff.mp et).1
        have eo : (ys ++ ws)[j]? = some (ys ++ ws)[j] := List.getElem?_eq_getElem hj
        have hb := s' _ _ (hPr.at_ j b _ et eo)
        generalize (ys ++ ws)[j] = o at eo hb
        refine ⟨b, _, rfl, .inl (.inl hb), rfl, _, _, rfl, _, _, rfl, rfl, rfl, ?_⟩
        have fl3 := filt_len (ys := ys ++ ws) (P := fun o => decide (o ≠ y) && decide (least (zs.map (·.2)) y ≤ lmost (zs.map (·.2)) o)) (i := j)
        rw [filt_take eo]
        refine ⟨_, rfl, _, rfl, rfl, _, rfl, ?_⟩
        refine ite2 (fun h => ?_) (fun h => ?_)
        · have ho : o ≠ y := by simpa using h
          refine ⟨_, rfl, _, rfl, _, rfl, dl, _, rfl, l_get s' hyp, _, _, rfl, rfl, _, rfl, ?_⟩
          rw [if_neg ho]
          refine ite2 (fun h2 => ?_) (fun h2 => ?_)
          · refine ⟨_, rfl, _, hD', by rw [List.length_map, sizeLine_eq]; omega, Same.put s' hD, ?_⟩
            rw [upd_same, if_pos (by rw [decide_eq_true ho, Bool.true_and]; exact h2), List.map_append]
            rfl
          · refine ⟨s', ?_⟩
            rw [if_neg (by rw [decide_eq_true ho, Bool.true_and]; exact h2), List.append_nil]
            exact hD'
        · have ho : ¬o ≠ y := by simpa using h
          refine (if_neg (by decide)).mpr ⟨s', ?_⟩
          rw [if_neg (by rw [decide_eq_false ho, Bool.false_and]; decide), List.append_nil]
          exact hD'
      rintro G2 ⟨s2, hD2⟩
      rw [List.length_map, hPr.len, List.take_length] at hD2
      have e1 : decide (((((ys ++ ws).filter fun o => decide (o ≠ y) && decide (least (zs.map (·.2)) y ≤ lmost (zs.map (·.2)) o)).map V.str).length : Int) < kk) = lsure ys ws (zs.map (·.2)) kk y := by
        rw [List.length_map]
        rfl
      refine ⟨D, _, rfl, .inl (.inl (.inl hD2)), _, rfl, _, _, rfl, rfl, _, rfl, ?_⟩
      rw [e1]
      refine ite2 (fun h => ?_) (fun h => ?_)
      · refine ⟨_, rfl, .inl ⟨rfl, _, .inl (.inl (s2 _ _ hls1))⟩, _, rfl, ls, _, _, rfl, rfl, s2 _ _ hls1, by rw [List.length_map, sizeLine_eq]; omega, ?_⟩
        refine ⟨_, _, _, _, _, rfl, Same.put (hG0.trans s2) hls0, ?_, ?_⟩
        · rw [upd_same, if_pos h, List.map_append]
          rfl
        · rw [upd_ne nso.symm, if_neg (by unfold dueL; rw [h]; simp), List.append_nil]
          exact s2 _ _ hlo1
      have hns : lsure ys ws (zs.map (·.2)) kk y = false := by simpa using h
      have hdu : dueL ys ws (zs.map (·.2)) kk y = lopen ys (zs.map (·.2)) kk y := by
        unfold dueL
        rw [hns]
        rfl
      refine ⟨_, rfl, ln, rfl, ⟨_, .inl (.inl ((hG0.trans s2) _ _ hln7))⟩, fun D2 hD2' => ?_⟩
      refine lc_list (K := K) (a := ln) (xs := ys.map V.str) (fun j G' => Same G2 G' ∧ G' D2 = some (.lst (((ys.take j).filter fun o => decide (o ≠ y) && decide (lmost (zs.map (·.2)) y ≤ least (zs.map (·.2)) o)).map V.str))) ⟨Same.new hD2', upd_same⟩ (fun j G' _ h => .inl (.inl (h.1 _ _ ((hG0.trans s2) _ _ hln7)))) ?_ ?_
      · rintro j v G' hv' ⟨s', hD'⟩
        obtain ⟨o, eo, rfl⟩ := yat hv'
        have hop : o ∈ ys ++ ws := List.mem_append_left _ (List.mem_of_getElem? eo)
        have fl3 := filt_len (ys := ys) (P := fun o => decide (o ≠ y) && decide (lmost (zs.map (·.2)) y ≤ least (zs.map (·.2)) o)) (i := j)
        rw [filt_take eo]
        refine ⟨rfl, ?_⟩
        refine ⟨_, rfl, _, rfl, rfl, _, rfl, ?_⟩
        refine ite2 (fun h => ?_) (fun h => ?_)
        · have ho : o ≠ y := by simpa using h
          refine ⟨_, rfl, _, rfl, dl, _, rfl, l_get (s2.trans s') hop, _, rfl, _, rfl, dm, _, rfl, m_get (s2.trans s') hyp, _, _, rfl, rfl, _, rfl, ?_⟩
          refine ite2 (fun h2 => ?_) (fun h2 => ?_)
          · refine ⟨_, rfl, _, hD', by rw [List.length_map, sizeLine_eq]; omega, Same.put s' hD2', ?_⟩
            rw [upd_same, if_pos (by rw [decide_eq_true ho, Bool.true_and]; exact h2), List.map_append]
            rfl
          · refine ⟨s', ?_⟩
            rw [if_neg (by rw [decide_eq_true ho, Bool.true_and]; exact h2), List.append_nil]
            exact hD'
        · have ho : ¬o ≠ y := by simpa using h
          refine (if_neg (by decide)).mpr ⟨s', ?_⟩
          rw [if_neg (by rw [decide_eq_false ho, Bool.false_and]; decide), List.append_nil]
          exact hD'
      rintro G3 ⟨s3, hD3⟩
      rw [hyl', List.take_length] at hD3
      have s13 := s2.trans s3
      have e2 : lopen ys (zs.map (·.2)) kk y = (decide (((((ys.filter fun o => decide (o ≠ y) && decide (lmost (zs.map (·.2)) y ≤ least (zs.map (·.2)) o)).map V.str).length) : Int) < kk) || decide (98 < lmost (zs.map (·.2)) y)) := by
        rw [List.length_map]
        rfl
      have hputs : G3 lo = some (.lst (((ys.take i).filter (dueL ys ws (zs.map (·.2)) kk)).map V.str)) := s13 _ _ hlo1
      have hkeep : G3 ls = some (.lst (((ys.take i).filter (lsure ys ws (zs.map (·.2)) kk) ++ if lsure ys ws (zs.map (·.2)) kk y = true then [y] else []).map V.str)) := by
        rw [if_neg h, List.append_nil]
        exact s13 _ _ hls1
      refine ⟨_, rfl, D2, _, rfl, .inl (.inl (.inl hD3)), _, rfl, _, _, rfl, rfl, _, rfl, ?_⟩
      refine ite2 (fun h1 => ?_) (fun h1 => ?_)
      · have hd : dueL ys ws (zs.map (·.2)) kk y = true := by
          rw [hdu, e2]
          simp only [h1, Bool.true_or, Bool.or_true]
        refine (if_pos rfl).mpr ?_
        refine ⟨_, rfl, .inl ⟨rfl, _, .inl (.inl hputs)⟩, _, rfl, lo, _, _, rfl, rfl, hputs, by rw [List.length_map, sizeLine_eq]; omega, ?_⟩
        refine ⟨_, _, _, _, _, rfl, Same.put (hG0.trans s13) hlo0, ?_, ?_⟩
        · rw [upd_ne nso]
          exact hkeep
        · rw [upd_same, if_pos hd, List.map_append]
          rfl
      refine ⟨_, rfl, _, rfl, dm, _, rfl, m_get s13 hyp, _, _, rfl, rfl, _, rfl, ?_⟩
      refine ite2 (fun h2 => ?_) (fun h2 => ?_)
      · have hd : dueL ys ws (zs.map (·.2)) kk y = true := by
          rw [hdu, e2]
          simp only [h2, Bool.true_or, Bool.or_true]
        refine ⟨_, rfl, .inl ⟨rfl, _, .inl (.inl hputs)⟩, _, rfl, lo, _, _, rfl, rfl, hputs, by rw [List.length_map, sizeLine_eq]; omega, ?_⟩
        refine ⟨_, _, _, _, _, rfl, Same.put (hG0.trans s13) hlo0, ?_, ?_⟩
        · rw [upd_ne nso]
          exact hkeep
        · rw [upd_same, if_pos hd, List.map_append]
          rfl
      refine ⟨_, _, _, _, _, rfl, hG0.trans s13, hkeep, ?_⟩
      have hd : ¬dueL ys ws (zs.map (·.2)) kk y = true := by
        rw [hdu, e2, Bool.or_eq_true]
        exact fun z => z.elim h1 h2
      rw [if_neg hd, List.append_nil]
      exact hputs
    · rintro σ G ⟨x10, x11, x12, x13, x14, rfl, sG, h1, h2⟩
      rw [hyl', List.take_length] at h1 h2
      exact ⟨x10, x11, x12, x13, x14, rfl, sG, h1, h2⟩
  rintro σ G9 ⟨x10, x11, x12, x13, x14, rfl, s9, hls9, hlo9⟩

  obtain ⟨due1, due2⟩ := due_eq (ys := ys) (zs := ws) (ps := zs.map (·.2)) (k := kk) okd (by rw [List.length_map]; exact hz3) hk1 (by rw [hzk]; omega) hout
  have hzps : (zs.map (·.2)).length = zs.length := List.length_map _
  -- what is due
  refine ⟨fun σ G => ∃ (td ta tb : Addr), σ = [some (.ref a), some (.ref p), some (.ref lp), some (.int kk), some (.ref ln), x5, x6, some (.ref lq), some (.ref ls), some (.ref lo), x10, x11, x12, x13, x14, some (.ref td), none, none, none, none, none, none, none] ∧ Same G9 G ∧ G td = some (.tup [.ref ta, .ref tb]) ∧ G ta = some (.tup ((sureL ys (zs.map (·.2)) kk).map V.str)) ∧ G tb = some (.tup ((openL ys (zs.map (·.2)) kk).map V.str)), ?_, ?_⟩
  · refine ⟨_, rfl, ls, _, rfl, .inl ⟨.inl (.inl hls9), fun t1 h1 => ?_⟩⟩
    have e1 := Same.new (o := .tup ((ys.filter (lsure ys ws (zs.map (·.2)) kk)).map V.str)) h1
    refine ⟨_, rfl, lo, _, rfl, .inl ⟨.inl (.inl (e1 _ _ hlo9)), fun t2 h2 => ?_⟩⟩
    have e2 := Same.new (o := .tup ((ys.filter (dueL ys ws (zs.map (·.2)) kk)).map V.str)) h2
    refine ⟨sz9 2 (by decide), fun t3 h3 => ?_⟩
    have e3 := Same.new (o := .tup [.ref t1, .ref t2]) h3
    rw [due1, due2]
    exact ⟨t3, t1, t2, rfl, e1.trans (e2.trans e3), upd_same, e3 _ _ (e2 _ _ upd_same), e3 _ _ upd_same⟩
  rintro σ G10 ⟨td, ta, tb, rfl, s10, htd, hta, htb⟩
  have L10 := (L7.same s9).same s10
  have okS : ∀ x ∈ sureL ys (zs.map (·.2)) kk, PyData.strOk x = true := fun x hx => abc_strOk (hya x (by rw [due1] at hx; exact (List.mem_filter.mp hx).1))
  have okO : ∀ x ∈ openL ys (zs.map (·.2)) kk, PyData.strOk x = true := fun x hx => abc_strOk (hya x (by rw [due2] at hx; exact (List.mem_filter.mp hx).1))
  have hmr := many_le okz
  have hmem2 : ∀ x, x ∈ ys ↔ ∃ q ∈ zs.map (·.2), x ∈ q.rows.map (·.1) := fun x => (hmem x).trans nmz_mem
  -- both ways
  refine ⟨fun σ G => σ = [some (.ref a), some (.ref p), some (.ref lp), some (.int kk), some (.ref ln), x5, x6, some (.ref lq), some (.ref ls), some (.ref lo), x10, x11, x12, x13, x14, some (.ref td), none, none, none, none, none, none, none] ∧ Same G10 G, ?_, ?_⟩
  · refine ⟨_, rfl, _, rfl, lp, .int kk, _, _, rfl, .inl L10.lsG.lst, prts_of L10.lsG.at_, .good hk1 (by omega) (by omega) (by rw [hzps]; omega) fun ys' t a' b' G hs' hn' hm' s' ht ha hb => ?_⟩
    obtain rfl : ys = ys' := (one_ys hs' hys hn' hnd fun x => (hm' x).trans (hmem2 x).symm).symm
    refine ⟨_, rfl, ne_same (dpDue ht ha hb) (dpDue (s' _ _ htd) (s' _ _ hta) (s' _ _ htb)) (dueD_ok okS okO).1 (dueD_ok okS okO).2 ?_⟩
    refine ⟨_, rfl, (if_neg (by simp)).mpr ?_⟩
    have L11 := L10.same s'
    refine ⟨_, rfl, lp, _, rfl, .inl (.inl L11.lsG.lst), fun q1 hq1 => ?_⟩
    have e1 := Same.new (o := .lst ((zs.map fun z => V.ref z.1).reverse)) hq1
    refine ⟨q1, _, rfl, .inl ⟨.inl (.inl upd_same), fun q2 hq2 => ?_⟩⟩
    have e2 := Same.new (o := .tup ((zs.map fun z => V.ref z.1).reverse)) hq2
    have hrv : (zs.map fun z => V.ref z.1).reverse = zs.reverse.map fun z => V.ref z.1 := by rw [List.map_reverse]
    have hrp : (zs.map (·.2)).reverse = zs.reverse.map (·.2) := by rw [List.map_reverse]
    have hprt : PrtsV K (upd (upd G q1 (.lst ((zs.map fun z => V.ref z.1).reverse))) q2 (.tup ((zs.map fun z => V.ref z.1).reverse))) ((zs.map fun z => V.ref z.1).reverse) (((zs.map (·.2)).reverse).map some) := by
      rw [hrp, hrv]
      refine prts_of fun z hz => ?_
      rw [← hrv]
      exact ((L11.lsG.at_ z (List.mem_reverse.mp hz)).same e1).same e2
    refine ⟨_, rfl, q2, .int kk, _, _, rfl, .inr upd_same, hprt, .good hk1 (by omega) ?_ (by rw [List.length_reverse, hzps]; omega) fun ys' t a' b' G' hs' hn' hm' s'' ht ha hb => ?_⟩
    · unfold manyRows at *
      rw [List.map_reverse, List.sum_reverse]
      omega
    obtain rfl : ys = ys' := (one_ys hs' hys hn' hnd fun x => (hm' x).trans (Iff.trans (by simp only [List.mem_reverse]) (hmem2 x).symm)).symm
    rw [Kd.sure_rev] at ha
    rw [Kd.open_rev] at hb
    have sx := s'.trans (e1.trans (e2.trans s''))
    refine ⟨_, rfl, ne_same (dpDue ht ha hb) (dpDue (sx _ _ htd) (sx _ _ hta) (sx _ _ htb)) (dueD_ok okS okO).1 (dueD_ok okS okO).2 ?_⟩
    refine ⟨_, rfl, (if_neg (by simp)).mpr ?_⟩
    exact ⟨rfl, sx⟩
  rintro σ G11 ⟨rfl, s11⟩
  have L11 := L10.same s11
  have hlq11 := s11 _ _ (s10 _ _ (s9 _ _ hlq7))
  have hls11 := s11 _ _ (s10 _ _ hls9)
  clear htd hta htb L10 s11 s10

  have nlq : lq ≠ p := by
    obtain ⟨kvs, hk⟩ := L11.pen.dict
    exact ne_of hlq11 hk (by intro z; cases z)
  have nls : ls ≠ p := by
    obtain ⟨kvs, hk⟩ := L11.pen.dict
    exact ne_of hls11 hk (by intro z; cases z)
  refine ⟨fun σ G => ∃ (x10 x11 x16 : Option V), σ = [some (.ref a), some (.ref p), some (.ref lp), some (.int kk), some (.ref ln), x5, x6, some (.ref lq), some (.ref ls), some (.ref lo), x10, x11, x12, x13, x14, some (.ref td), x16, none, none, none, none, none, none] ∧ LwA p c 5000 lp zs G, ?_, ?_⟩
  · refine ⟨6, rfl, by decide, by decide, ?_⟩
    refine for_range (lo := 0) (n := 6) (fun i σ G => ∃ (x10 x11 x16 : Option V), σ = [some (.ref a), some (.ref p), some (.ref lp), some (.int kk), some (.ref ln), x5, x6, some (.ref lq), some (.ref ls), some (.ref lo), x10, x11, x12, x13, x14, some (.ref td), x16, none, none, none, none, none, none] ∧ LwA p c (61 + 800 * i) lp zs G ∧ Same (rm p G11) (rm p G)) ⟨x10, x11, none, rfl, L11, Same.refl _⟩ ?_ ?_
    · rintro i σ G hi ⟨x10, x11, x16, rfl, L, sG⟩
      refine ⟨_, rfl, _, rfl, _, rfl, p, c, lp, lq, _, zs, ys ++ ws, rfl, L.pen, by omega, L.ls, by omega, sG _ _ (rm_get hlq11 nlq), hpnd, hpl, fun dw tot G1 hp1 s1 hdw hb => ?_⟩
      have L1 := L.pn hp1 s1
      have sG1 := sG.trans s1
      have hlqr := (rm_of (sG1 _ _ (rm_get hlq11 nlq))).2
      have hlsr := (rm_of (sG1 _ _ (rm_get hls11 nls))).2
      have hdw := (rm_of hdw).2
      refine ⟨_, rfl, ls, rfl, ⟨_, .inl (.inl hlsr)⟩, for_list (K := K) (a := ls) (xs := (ys.filter (lsure ys ws (zs.map (·.2)) kk)).map V.str) (fun j σ G => ∃ x10, σ = [some (.ref a), some (.ref p), some (.ref lp), some (.int kk), some (.ref ln), x5, x6, some (.ref lq), some (.ref ls), some (.ref lo), x10, some (.ref dw), x12, x13, x14, some (.ref td), some (.int (0 + (i : Int))), none, none, none, none, none, none] ∧ Same G1 G) ?_ ?_ ?_ ?_⟩
      · exact ⟨x10, rfl, Same.refl _⟩
      · intro j σ G _ h
        obtain ⟨_, _, h⟩ := h
        exact .inl (.inl (h _ _ hlsr))
      · rintro j v σ G2 hv ⟨x10, rfl, s2⟩
        obtain ⟨y, ey, rfl⟩ := yat hv
        have my := List.mem_filter.mp (List.mem_of_getElem? ey)
        have hyp : y ∈ ys ++ ws := List.mem_append_left _ my.1
        have t_get : ∀ {G' : Hp} {x : Str}, Same G1 G' → x ∈ ys ++ ws → DGet G' dw (.str x) (some (.int (tot x))) := fun {G' x} s hx => by
          have := DGet.k (k := Sum.inr x) (s _ _ hdw)
          rw [valV_dO hx] at this
          exact this
        refine ⟨_, rfl, lq, rfl, ⟨_, .inl (.inl (s2 _ _ hlqr))⟩, fun D hD => ?_⟩
        refine lc_list (K := K) (a := lq) (xs := (ys ++ ws).map V.str) (fun l G' => Same G2 G' ∧ G' D = some (.lst ((((ys ++ ws).take l).filter fun o => decide (o ≠ y) && decide (tot y ≤ tot o)).map V.str))) ⟨Same.new hD, upd_same⟩ ?_ ?_ ?_
        · intro l G' _ h
          exact .inl (.inl (h.1 _ _ (s2 _ _ hlqr)))
        · rintro l v G' hv' ⟨s', hD'⟩
          obtain ⟨o, eo, rfl⟩ := yat hv'
          have hop : o ∈ ys ++ ws := List.mem_of_getElem? eo
          have fl3 := filt_len (ys := ys ++ ws) (P := fun o => decide (o ≠ y) && decide (tot y ≤ tot o)) (i := l)
          rw [filt_take eo]
          refine ⟨rfl, ?_⟩
          refine ⟨_, rfl, _, rfl, rfl, _, rfl, ?_⟩
          refine ite2 (fun h => ?_) (fun h => ?_)
          · have ho : o ≠ y := by simpa using h
            refine ⟨_, rfl, _, rfl, dw, _, rfl, t_get (s2.trans s') hop, _, rfl, _, rfl, dw, _, rfl, t_get (s2.trans s') hyp, _, _, rfl, rfl, _, rfl, ?_⟩
            refine ite2 (fun h2 => ?_) (fun h2 => ?_)
            · refine ⟨_, rfl, _, hD', by rw [List.length_map, sizeLine_eq]; omega, Same.put s' hD, ?_⟩
              rw [upd_same, if_pos (by rw [decide_eq_true ho, Bool.true_and]; exact h2), List.map_append]
              rfl
            · refine ⟨s', ?_⟩
              rw [if_neg (by rw [decide_eq_true ho, Bool.true_and]; exact h2), List.append_nil]
              exact hD'
          · have ho : ¬o ≠ y := by simpa using h
            refine (if_neg (by decide)).mpr ⟨s', ?_⟩
            rw [if_neg (by rw [decide_eq_false ho, Bool.false_and]; decide), List.append_nil]
            exact hD'
        · rintro G3 ⟨s3, hD3⟩
          rw [List.length_map, List.take_length] at hD3
          refine ⟨D, _, rfl, .inl (.inl (.inl hD3)), _, rfl, _, _, rfl, rfl, _, rfl, ?_⟩
          have hw := Kd.way_ok (pool := ys ++ ws) (ps := zs.map (·.2)) (k := kk) (x := y) (tot := tot) (fun o ho => (hb o ho).2) (hb y hyp).1 (by
            have := my.2
            unfold lsure at this
            exact of_decide_eq_true this)
          refine (if_neg ?_).mpr ?_
          · rw [decide_eq_true_eq, List.length_map]
            omega
          · exact ⟨_, rfl, s2.trans s3⟩
      · rintro σ G2 ⟨x10, rfl, s2⟩
        exact ⟨_, _, _, rfl, (L1.same s2).mono (by omega), sG1.trans (rm_same s2)⟩
    · rintro σ G ⟨x10, x11, x16, rfl, L, _⟩
      exact ⟨x10, x11, x16, rfl, L.mono (by omega)⟩
  rintro σ G12 ⟨y10, y11, y16, rfl, L12⟩
  clear hlq11 hls11 nlq nls L11

  -- wrong parts
  have fab : fText (.str "a") = true ∧ ("a" : Str).cps.size ≤ 60 ∧ (∀ c ∈ ("a" : Str).cps.toList, c < 128) := by refine ⟨?_, ?_, ?_⟩ <;> decide +kernel
  refine ⟨fun σ G => ∃ (lw : Addr) (vs : List V), σ = [some (.ref a), some (.ref p), some (.ref lp), some (.int kk), some (.ref ln), x5, x6, some (.ref lq), some (.ref ls), some (.ref lo), y10, y11, x12, x13, x14, some (.ref td), y16, some (.ref lw), none, none, none, none, none] ∧ LwA p c 5000 lp zs G ∧ G lw = some (.lst vs) ∧ vs.length = 3 ∧ ∀ v ∈ vs, PrtV K G v none, ?_, ?_⟩
  · refine ⟨sz9 2 (by decide), fun t1 h1 => ⟨sz9 1 (by decide), fun t2 h2 => ⟨sz9 2 (by decide), fun t3 h3 => ?_⟩⟩⟩
    have e1 := Same.new (o := .tup [.str "a", .int 0]) h1
    obtain ⟨e2, w1⟩ := al1 (K := K) (b := true) h2 h3 (.few (q := ("a", 0)) upd_same fab.1 fab.2.1 fab.2.2 (by decide) (by decide))
    refine ⟨sz9 2 (by decide), fun t4 h4 => ⟨sz9 2 (by decide), fun t5 h5 => ⟨sz9 2 (by decide), fun t6 h6 => ⟨sz9 2 (by decide), fun t7 h7 => ?_⟩⟩⟩⟩
    have e4 := Same.new (o := .tup [.str "a", .int 1]) h4
    have e5 := Same.new (o := .tup [.str "b", .int 2]) h5
    obtain ⟨e6, w2⟩ := al2 (K := K) (b := true) h6 h7 (.ok (e5 _ _ upd_same) rw_ab.1) (.ok upd_same rw_ab.2.1) (.un Kd.le_ab)
    refine ⟨sz9 2 (by decide), fun t8 h8 => ⟨sz9 2 (by decide), fun t9 h9 => ⟨sz9 2 (by decide), fun u1 k1 => ⟨sz9 2 (by decide), fun u2 k2 => ?_⟩⟩⟩⟩
    have e8 := Same.new (o := .tup [.str "b", .int 1]) h8
    have e9 := Same.new (o := .tup [.str "a", .int 1]) h9
    obtain ⟨f1, w3⟩ := al2 (K := K) (b := false) k1 k2 (.ok (e9 _ _ upd_same) rw_ab.2.2.1) (.ok upd_same rw_ab.1) (.un Kd.le_ba)
    have e389 := e8.trans (e9.trans f1)
    have e456 := e4.trans (e5.trans e6)
    refine ⟨sz9 3 (by decide), fun lw hlw => ⟨lw, _, rfl, L12.same (e1.trans (e2.trans (e456.trans (e389.trans (Same.new hlw))))), upd_same, rfl, fun v hv => ?_⟩⟩
    have eN := Same.new (o := .lst [.ref t3, .ref t7, .ref u2]) hlw
    simp only [List.mem_cons, List.not_mem_nil, or_false] at hv
    rcases hv with rfl | rfl | rfl
    · exact w1.same (e456.trans (e389.trans eN))
    · exact w2.same (e389.trans eN)
    · exact w3.same eN
  rintro σ G13 ⟨lw, vs3, rfl, L13, hlw, hv3, hw3⟩

  refine ⟨fun σ G => ∃ (lw : Addr) (vs : List V), σ = [some (.ref a), some (.ref p), some (.ref lp), some (.int kk), some (.ref ln), x5, x6, some (.ref lq), some (.ref ls), some (.ref lo), y10, y11, x12, x13, x14, some (.ref td), y16, some (.ref lw), none, none, none, none, none] ∧ LwA p c 5000 lp zs G ∧ G lw = some (.lst vs) ∧ vs.length = 6 ∧ ∀ v ∈ vs, PrtV K G v none, ?_, ?_⟩
  · refine ⟨_, rfl, sz9 2 (by decide), fun t4 h4 => ⟨sz9 2 (by decide), fun t5 h5 => ⟨sz9 2 (by decide), fun t6 h6 => ⟨sz9 2 (by decide), fun t7 h7 => ?_⟩⟩⟩⟩
    have e4 := Same.new (o := .tup [.str "a", .int 2]) h4
    have e5 := Same.new (o := .tup [.str "a", .int 1]) h5
    obtain ⟨e6, w2⟩ := al2 (K := K) (b := true) h6 h7 (.ok (e5 _ _ upd_same) rw_ab.2.2.2) (.ok upd_same rw_ab.1) (.dbl Kd.le_aa rfl)
    refine ⟨sz9 2 (by decide), fun t1 h1 => ⟨sz9 1 (by decide), fun t2 h2 => ⟨sz9 2 (by decide), fun t3 h3 => ?_⟩⟩⟩
    have e1 := Same.new (o := .tup [.int 5, .int 1]) h1
    obtain ⟨e2, w1⟩ := al1 (K := K) (b := true) h2 h3 (.int upd_same (by decide))
    refine ⟨sz9 2 (by decide), fun t8 h8 => ⟨sz9 1 (by decide), fun t9 h9 => ⟨sz9 2 (by decide), fun u1 k1 => ?_⟩⟩⟩
    have e8 := Same.new (o := .tup [.str "a", .bl true]) h8
    obtain ⟨e9, w3⟩ := al1 (K := K) (b := true) h9 k1 (.bl upd_same fab.1 fab.2.1 fab.2.2)
    have e456 := e4.trans (e5.trans e6)
    have e12 := e1.trans e2
    have e89 := e8.trans e9
    refine ⟨sz9 3 (by decide), fun l2 hl2 => ?_⟩
    have eN := Same.new (o := .lst [.ref t7, .ref t3, .ref u1]) hl2
    have eA := e456.trans (e12.trans (e89.trans eN))
    refine ⟨lw, l2, _, _, rfl, rfl, eA _ _ hlw, upd_same, by rw [hv3, sizeLine_eq]; show 3 + 3 ≤ _; decide, fun l3 hl3 => ⟨l3, _, rfl, L13.same (eA.trans (Same.new hl3)), upd_same, by rw [List.length_append, hv3]; rfl, fun v hv => ?_⟩⟩
    have eM := Same.new (o := .lst (vs3 ++ [.ref t7, .ref t3, .ref u1])) hl3
    rcases List.mem_append.mp hv with hv | hv
    · exact (hw3 v hv).same (eA.trans eM)
    simp only [List.mem_cons, List.not_mem_nil, or_false] at hv
    rcases hv with rfl | rfl | rfl
    · exact w2.same (e12.trans (e89.trans (eN.trans eM)))
    · exact w1.same (e89.trans (eN.trans eM))
    · exact w3.same (eN.trans eM)
  clear hlw hv3 hw3 L13
  rintro σ G14 ⟨lw, vs6, rfl, L14, hlw, hv6, hw6⟩
  refine ⟨fun σ G => ∃ (lw : Addr) (vs : List V), σ = [some (.ref a), some (.ref p), some (.ref lp), some (.int kk), some (.ref ln), x5, x6, some (.ref lq), some (.ref ls), some (.ref lo), y10, y11, x12, x13, x14, some (.ref td), y16, some (.ref lw), none, none, none, none, none] ∧ LwA p c 5000 lp zs G ∧ G lw = some (.lst vs) ∧ vs.length = 10 ∧ ∀ v ∈ vs, PrtV K G v none, ?_, ?_⟩
  · refine ⟨_, rfl, sz9 1 (by decide), fun t1 h1 => ⟨sz9 1 (by decide), fun t2 h2 => ⟨sz9 2 (by decide), fun t3 h3 => ?_⟩⟩⟩
    have e1 := Same.new (o := .tup [.str "a"]) h1
    obtain ⟨e2, w1⟩ := al1 (K := K) (b := false) h2 h3 (.one upd_same)
    refine ⟨sz9 1 (by decide), fun t4 h4 => ⟨sz9 2 (by decide), fun t5 h5 => ?_⟩⟩
    obtain ⟨e4, w2⟩ := al1 (K := K) (b := true) (v := .str "ab") h4 h5 (.txt _)
    refine ⟨sz9 2 (by decide), fun t6 h6 => ?_⟩
    obtain ⟨e6, w3⟩ := al0 (K := K) (b := true) h6 (.int 5)
    refine ⟨sz9 2 (by decide), fun t7 h7 => ?_⟩
    obtain ⟨e7, w4⟩ := al0 (K := K) (b := false) h7 .non
    refine ⟨sz9 4 (by decide), fun l2 hl2 => ?_⟩
    have eN := Same.new (o := .lst [.ref t3, .ref t5, .ref t6, .ref t7]) hl2
    have eA := e1.trans (e2.trans (e4.trans (e6.trans (e7.trans eN))))
    refine ⟨lw, l2, _, _, rfl, rfl, eA _ _ hlw, upd_same, by rw [hv6, sizeLine_eq]; show 6 + 4 ≤ _; decide, fun l3 hl3 => ⟨l3, _, rfl, L14.same (eA.trans (Same.new hl3)), upd_same, by rw [List.length_append, hv6]; rfl, fun v hv => ?_⟩⟩
    have eM := Same.new (o := .lst (vs6 ++ [.ref t3, .ref t5, .ref t6, .ref t7])) hl3
    rcases List.mem_append.mp hv with hv | hv
    · exact (hw6 v hv).same (eA.trans eM)
    simp only [List.mem_cons, List.not_mem_nil, or_false] at hv
    rcases hv with rfl | rfl | rfl | rfl
    · exact w1.same (e4.trans (e6.trans (e7.trans (eN.trans eM))))
    · exact w2.same (e6.trans (e7.trans (eN.trans eM)))
    · exact w3.same (e7.trans (eN.trans eM))
    · exact w4.same (eN.trans eM)
  clear hlw hv6 hw6 L14
  rintro σ G15 ⟨lw, vs, rfl, L15, hlw, hvl, hw⟩
  obtain ⟨kvs, hkv⟩ := L15.pen.dict
  have nlw : lw ≠ p := ne_of hlw hkv (by intro z; cases z)
  have hw : ∀ v ∈ vs, PrtV K (rm p G15) v none := fun v hv => (hw v hv).rm hkv
  -- the place
  refine ⟨fun σ G => ∃ n : Nat, σ = [some (.ref a), some (.ref p), some (.ref lp), some (.int kk), some (.ref ln), x5, x6, some (.ref lq), some (.ref ls), some (.ref lo), y10, y11, x12, x13, x14, some (.ref td), y16, some (.ref lw), some (.int (n : Int)), none, none, none, none] ∧ LwA p c 5001 lp zs G ∧ rm p G = rm p G15 ∧ n ≤ zs.length, ?_, ?_⟩
  · refine ⟨_, rfl, _, rfl, lp, _, rfl, .inl (.inl (.inl L15.lsG.lst)), _, _, rfl, rfl, p, c, 5000, _, rfl, L15.pen, by decide, by omega, log_ok (by rw [hzl]; omega), fun v o a0 b0 hP => ?_⟩
    rw [hzl] at b0
    refine ⟨v.toNat, ?_, L15.drawn hP, rm_draw, by omega⟩
    rw [show ((v.toNat : Nat) : Int) = v by omega]
    rfl
  rintro σ G16 ⟨n, rfl, L16, r16, hn⟩
  have hlw16 : rm p G16 lw = some (.lst vs) := by rw [r16]; exact rm_get hlw nlw
  rw [← r16] at hw
  clear r16 hlw hkv L15
  have hn' : n ≤ (zs.map fun z => V.ref z.1).length := by rw [hzl]; exact hn
  refine ⟨fun σ G => σ = [some (.ref a), some (.ref p), some (.ref lp), some (.int kk), some (.ref ln), x5, x6, some (.ref lq), some (.ref ls), some (.ref lo), y10, y11, x12, x13, x14, some (.ref td), y16, some (.ref lw), some (.int (n : Int)), none, none, none, none] ∧ LwA p c 5002 lp zs G, ?_, ?_⟩
  · obtain ⟨v0, vs', rfl⟩ : ∃ v0 vs', vs = v0 :: vs' := by
      cases vs with
      | nil => cases hvl
      | cons v0 vs' => exact ⟨v0, vs', rfl⟩
    refine ⟨_, rfl, _, rfl, n, rfl, lp, _, rfl, .inl (.inl L16.lsG.lst), fun q1 hq1 => ?_⟩
    rw [cut_take hn']
    have e1 := Same.new (o := .lst ((zs.map fun z => V.ref z.1).take n)) hq1
    have nq1 := L16.pen.nb hq1
    refine ⟨_, rfl, _, rfl, p, c, 5001, _, _, rfl, L16.pen.new hq1, .lst (.inl (.inl (e1 _ _ (rm_of hlw16).2))), by decide, by omega, by omega, fun i v o hv hP => ?_⟩
    have L2 := (L16.same e1).drawn hP
    have sr : Same (rm p G16) (rm p (upd (upd G16 q1 (.lst ((zs.map fun z => V.ref z.1).take n))) p o)) := by
      rw [rm_draw]
      exact rm_same e1
    have g1 : upd (upd G16 q1 (.lst ((zs.map fun z => V.ref z.1).take n))) p o q1 = some (.lst ((zs.map fun z => V.ref z.1).take n)) := by
      rw [upd_ne nq1, upd_same]
    have gw := (rm_of (sr _ _ hlw16)).2
    have wv := prt_un ((hw v (List.mem_of_getElem? hv)).same sr)
    have w0 := prt_un ((hw v0 List.mem_cons_self).same sr)
    generalize upd (upd G16 q1 (.lst ((zs.map fun z => V.ref z.1).take n))) p o = H2 at L2 g1 gw wv w0
    refine ⟨sz9 1 (by decide), fun q2 hq2 => ?_⟩
    have e2 := Same.new (o := .lst [v]) hq2
    refine ⟨q1, q2, _, _, rfl, rfl, e2 _ _ g1, upd_same, ?_, fun q3 hq3 => ?_⟩
    · rw [List.length_take, hzl, sizeLine_eq]
      show _ + 1 ≤ _
      omega
    have e3 := Same.new (o := .lst ((zs.map fun z => V.ref z.1).take n ++ [v])) hq3
    have e23 := e2.trans e3
    refine ⟨_, rfl, _, rfl, n, rfl, lp, _, rfl, .inl (.inl ((L2.same e23).lsG.lst)), fun q4 hq4 => ?_⟩
    rw [cut_drop hn']
    have e4 := Same.new (o := .lst ((zs.map fun z => V.ref z.1).drop n)) hq4
    refine ⟨q3, q4, _, _, rfl, rfl, e4 _ _ upd_same, upd_same, ?_, fun q5 hq5 => ?_⟩
    · rw [List.length_append, List.length_take, List.length_drop, hzl, sizeLine_eq]
      show _ + 1 + _ ≤ _
      omega
    have e5 := Same.new (o := .lst ((zs.map fun z => V.ref z.1).take n ++ [v] ++ (zs.map fun z => V.ref z.1).drop n)) hq5
    have e25 := e23.trans (e4.trans e5)
    refine ⟨_, rfl, lw, _, 0, v0, rfl, rfl, .inl (.inl (e25 _ _ gw)), atI_nat (j := 0) rfl, sz9 1 (by decide), fun q6 hq6 => ?_⟩
    have e6 := Same.new (o := .lst [v0]) hq6
    refine ⟨q5, q6, _, _, rfl, rfl, e6 _ _ upd_same, upd_same, ?_, fun q7 hq7 => ?_⟩
    · rw [List.length_append, List.length_append, List.length_take, List.length_drop, hzl, sizeLine_eq]
      show _ + 1 + _ + 1 ≤ _
      omega
    have e7 := Same.new (o := .lst ((zs.map fun z => V.ref z.1).take n ++ [v] ++ (zs.map fun z => V.ref z.1).drop n ++ [v0])) hq7
    have e27 := e25.trans (e6.trans e7)
    have L7 := L2.same e27
    have q1' := prts_of (K := K) (zs := zs.take n) fun z hz => L7.lsG.at_ z (List.mem_of_mem_take hz)
    have q2' := prts_of (K := K) (zs := zs.drop n) fun z hz => L7.lsG.at_ z (List.mem_of_mem_drop hz)
    rw [List.map_take] at q1'
    rw [List.map_drop] at q2'
    have hall := prts_app (prts_app (prts_app q1' (prts_one (wv.same e27))) q2') (prts_one (w0.same e27))
    have eo : ∀ a b : List (Option Pt), (a ++ [none] ++ b) ++ [none] = a ++ none :: (b ++ [none]) := fun a b => by simp
    rw [eo] at hall
    refine ⟨q7, .int 0, _, _, rfl, .inl upd_same, hall, .bad ?_ fun t G' s ht => ?_⟩
    · rw [List.length_append, List.length_map, List.length_map, List.length_map, List.length_take, List.length_drop]
      show _ + (_ + 1) ≤ _
      omega
    · rw [List.length_map, List.length_take, Nat.min_eq_left hn] at ht
      refine ⟨_, rfl, sz9 2 (by decide), fun t2 ht2 => ?_⟩
      have e8 := Same.new (o := .tup [.str "rows", .int (n : Int)]) ht2
      refine ne_same (.tup (.inl (.inl (e8 _ _ ht))) (.cons (.str _) (.cons (.int _) .nil))) (.tup (.inl (.inl upd_same)) (.cons (.str _) (.cons (.int _) .nil))) (rowsD_ok n).1 (rowsD_ok n).2 ?_
      exact ⟨_, rfl, (if_neg (by simp)).mpr ⟨rfl, (L7.same s).same e8⟩⟩
  rintro σ G17 ⟨rfl, L17⟩
  refine ⟨fun σ G => ∃ (v9 : V) (d9 : PyData) (t9 : String), σ = [some (.ref a), some (.ref p), some (.ref lp), some (.int kk), some (.ref ln), x5, x6, some (.ref lq), some (.ref ls), some (.ref lo), y10, y11, x12, x13, x14, some (.ref td), y16, some (.ref lw), some (.int (n : Int)), some v9, none, none, none] ∧ LwA p c 5003 lp zs G ∧ OddV K v9 d9 t9, ?_, ?_⟩
  · refine ⟨_, rfl, _, rfl, sz9 5 (by decide), fun l hl => ⟨p, c, 5002, _, _, rfl, L17.pen.new hl, .lst (.inl (.inl upd_same)), by decide, by decide, by decide, fun i v o hv hP => ?_⟩⟩
    obtain ⟨d, t, ho⟩ := odd_ok (K := K) hv
    exact ⟨v, d, t, rfl, (L17.same (Same.new hl)).drawn hP, ho⟩
  rintro σ G18 ⟨v9, d9, t9, rfl, L18, hO⟩
  refine ⟨_, rfl, _, rfl, lp, v9, _, _, rfl, .inl L18.lsG.lst, prts_of L18.lsG.at_, .odd (by rw [hzps]; omega) (hO.ov _) hO.no fun t G s ht => ?_⟩
  refine ⟨_, rfl, sz9 2 (by decide), fun t2 ht2 => ?_⟩
  have e2 := Same.new (o := .tup [.str "k", v9]) ht2
  exact eq_same (.tup (.inl (.inl (e2 _ _ ht))) (.cons (.str _) (.cons (hO.dp _) .nil))) (.tup (.inl (.inl upd_same)) (.cons (.str _) (.cons (hO.dp _) .nil))) hO.lay.1 hO.lay.2 (k _)
end
end Wq
set_option Elab.async false
set_option linter.all false
set_option maxRecDepth 100000
set_option maxHeartbeats 2000000
namespace Wq
open PySem PySem.Spec PyProof.Rows L2
/-! all that stands behind the law -/
/-- the written facts of an error -/
structure ErrW (K : PySem.W.Frag) (mg : Str → Option Value) (CE : Addr) (x : Str) (fs : List Str) : Prop where
  ox : OexC K CE
  ns : ∀ f ∈ fs, PySem.W.findIn K (.ref CE) f = some none
  gC : mg x = some (.ref CE)
  xf : XfC K CE
  te : PySem.W.exmOne K (.ref CE) (.ref CE) = some true
theorem ns1 {K : PySem.W.Frag} {CE : Addr} {f : Str} (h : PySem.W.findIn K (.ref CE) f = some none) : ∀ g ∈ [f], PySem.W.findIn K (.ref CE) g = some none := fun g hg => by
  rw [List.mem_singleton.mp hg]
  exact h
theorem ns2 {K : PySem.W.Frag} {CE : Addr} {f f2 : Str} (h : PySem.W.findIn K (.ref CE) f = some none) (h2 : PySem.W.findIn K (.ref CE) f2 = some none) : ∀ g ∈ [f, f2], PySem.W.findIn K (.ref CE) g = some none := fun g hg => by
  rcases List.mem_cons.mp hg with rfl | hg
  · exact h
  · rw [List.mem_singleton.mp hg]
    exact h2
structure KnW (K : PySem.W.Frag) (mg : Str → Option Value) (C : Addr) : Prop extends TxtK K mg C where
  mkc : PySem.W.makesIn K C = true
  kp : PySem.W.keepIn K (.ref C) = true
theorem all_mk {l : PySem.W.OpenLaw} {w : World} {K : PySem.W.Frag} {h : Heap} {mg : Str → Option Value} {fa C CN CR : Addr} (X : K.In h) (G : h.Ns mainGlobals mg) (hfa : mg "law" = some (.ref fa))
    (T : Txt K mg) (Tx : TxtX mg) (TA : TxtA mg) (KW : KnW K mg C) (WN : ErrW K mg CN "BadNumber" ["what", "number"]) (WR : ErrW K mg CR "BadRows" ["index"]) (ne : PySem.W.exmOne K (.ref CN) (.ref CR) = some false)
    (d6 : DefAt K mg "is_text" sText) (d7 : DefAt K mg "is_integer" sInt) (d10 : DefAt K mg "are_first_rows" sAF) (d11 : DefAt K mg "sure_first" sSF) (d12 : DefAt K mg "sum_or_none" sSu) (d13 : DefAt K mg "is_below" sBe) (d14 : DefAt K mg "ahead_of" sAh)
    (d16 : DefAt K mg "_law_pen" sPen) (d17 : DefAt K mg "_law_draw" sDraw) (d18 : DefAt K mg "_law_pick" sPick) (d19 : DefAt K mg "_law_part" sLP) (d20 : DefAt K mg "_law_most" sLM) (d21 : DefAt K mg "_law_ways" sLW) (d22 : DefAt K mg "_law_drawn_way" sLD)
    (d23 : DefAt K mg "_law_told" sLT) (d24 : DefAt K mg "law" sLaw)
    (n0 : MAt K CN "__init__" "BadNumber.__init__" sBN) (r0 : MAt K CR "__init__" "BadRows.__init__" sBR) (k0 : MAt K C "__init__" "KnownRows.__init__" sKI) (k1 : MAt K C "most_of" "KnownRows.most_of" sMo) :
    ∃ fd : FuncData, (∀ (s : Shared) (v : Value), BindsTo s fd ⟨[v], []⟩ [("_law_script", v)]) ∧ ∀ base : Heap, K.In base → base.Ns mainGlobals mg → FnOk l.prog w K mg base CX0 6 fa fd ["_law_script"] (spLaw K) := by
  obtain ⟨f, fd, F, hm⟩ := d24.ex
  have e := hfa.symm.trans hm
  cases e
  obtain ⟨oc, od, kV, doc, pm, an, cdv, ct, osl, rfl, lk, hcd⟩ := F.ex
  refine ⟨PySem.W.fnOf "law" "law" (defArgs sLaw) (defBody sLaw) (defScope sLaw) .none kV doc pm an cdv ct, fun s v => .of_eq rfl, fun base _ _ => ?_⟩
  have CD := ok_draw (P := l.prog) (w := w) (base := base) d17 T
  have CP := ok_pick (P := l.prog) (w := w) (base := base) d18 T CD
  -- errors
  obtain ⟨fN, fdN, FN, MN⟩ := n0.ex
  have TN : TxtE K mg CN fN "BadNumber" "what" "number" := ⟨WN.ox, WN.ns _ (by simp), WN.ns _ (by simp), MN.at_, beq_iff_eq.mp MN.fn, WN.gC, WN.xf, WN.te⟩
  have GN := ok_BN (P := l.prog) (w := w) (base := base) (mg := mg) FN TN
  have bN := FN.binds (ps := ["self", "what", "number"]) fun _ _ _ _ _ _ us hl => match us, hl with | [_, _, _], _ => rfl
  obtain ⟨fR, fdR, FR, MR⟩ := r0.ex
  have TR : TxtF K mg CR fR := ⟨WR.ox, WR.ns _ (by simp), MR.at_, beq_iff_eq.mp MR.fn, WR.gC, WR.xf, WR.te⟩
  have GR := ok_BR (P := l.prog) (w := w) (base := base) (mg := mg) FR TR
  have bR := FR.binds (ps := ["self", "index"]) fun _ _ _ _ _ _ us hl => match us, hl with | [_, _], _ => rfl
  have ER : ErK l.prog w K mg base CR CN := ⟨⟨_, _, TR, GR, bR⟩, ⟨_, _, TN, GN, bN⟩⟩
  -- KnownRows
  obtain ⟨f0, fd0, F0, M0⟩ := k0.ex
  obtain ⟨f1, fd1, F1, M1⟩ := k1.ex
  have TK := KW.toTxtK
  have MK : MkK l.prog w K mg base C := ⟨TK.gC, _, _, ⟨KW.mkc, M0.at_, M0.fn, KW.kp⟩, ok_KI F0 TK T, F0.binds (ps := ["self", "rows", "is_whole"]) fun _ _ _ _ _ _ us hl => match us, hl with | [_, _, _], _ => rfl⟩
  have MO : MoK l.prog w K mg base C := ⟨_, _, M1, ok_Mo F1 TK T, F1.binds (ps := ["self", "text"]) fun _ _ _ _ _ _ us hl => match us, hl with | [_, _], _ => rfl⟩
  -- functions
  have CT := ok_Text (P := l.prog) (w := w) (base := base) d6 T Tx
  have CI := ok_Int (P := l.prog) (w := w) (base := base) d7 T Tx
  have CA := ok_AF d10 T Tx TA CT CI
  have CBe := ok_Be (P := l.prog) (w := w) (K := K) (base := base) d13
  have CS := ok_SF d11 T Tx TA TK MK MO ER CI CA (ok_Su d12 TA) CBe (ok_Ah d14 T CBe)
  have CM := ok_LM (P := l.prog) (w := w) (base := base) d20 T
  exact ok_law F T Tx TA (ok_pen d16 T) CD CP (ok_LP d19 T TA CD CP) (ok_LW d21 TA CM) (ok_LD d22 CD CM) (ok_LT d23 ER ne CS) CS
theorem walk {l : PySem.W.OpenLaw} {q : Program} {loose : List Str} {XP : (Str → Option Value) → Heap → Prop} {YP : World → Heap → Prop} {d : DefRec} {K : Params → PySem.W.Frag} (hn : l.most = some 63) (hdf : d.params.defaults = [])
    (hY : ∀ (w : World) (h : Heap), YP w h → (K w.params).In h)
    (F : ∀ (w : World) (mg : Str → Option Value) (fa : Addr) (h : Heap), (K w.params).In h → h.Ns mainGlobals mg → mg d.name = some (.ref fa) →
      ∃ fd : FuncData, (∀ (s : Shared) (u : Value), BindsTo s fd ⟨[u], []⟩ [("_law_script", u)]) ∧ ∀ base : Heap, (K w.params).In base → base.Ns mainGlobals mg → FnOk l.prog w (K w.params) mg base CX0 6 fa fd ["_law_script"] (spLaw (K w.params))) :
    PySem.W.WalkO q loose XP YP l.row.toRowW d [] (fun f vs => PySem.call f vs) :=
  L2.walk_of (n := 63) (k := 6) (x := "_law_script") (CX := fun _ => CX0) (sp := fun w => spLaw (K w.params)) hn (by decide) hdf ⟨rfl, by decide, by decide⟩ hY F (fun _ _ a ns hl _ hS => ⟨a, ns, rfl, hS, fun _ => rfl⟩) fun _ _ _ _ _ z => z
end Wq
set_option Elab.async false
set_option linter.all false
set_option maxRecDepth 100000
set_option maxHeartbeats 2000000
namespace Wq
open PySem PySem.Spec PyProof.Rows L2
theorem oex_mk {K : PySem.W.Frag} {C : Addr} {nm q : Str} {N : Addr} {bs bm : List Value} {sn : List Str} {sub : List Value} {ab : Bool} {col : Option Bool} {dd : Option Addr} {k0 k1 k2 k3 k5 : Option Value}
    (xL : K.lookup C = some (excClassObj nm q C N bs bm true sn sub ab col dd k0 k1 k2 k3 k5 "ValueError.__new__")) (rv : PySem.HandSPX.refsVE bm = true) (sa : PySem.W.findIn K (.ref C) "__setattr__" = some (some (.builtin "object.__setattr__")))
    (eC : PySem.W.subIn K (.ref C) (.type "BaseException") = some true) (tC : PySem.W.typeIn K (.ref C) = some (.type "type")) (kC : PySem.W.keepIn K (.ref C) = true) : OexC K C := ⟨⟨nm, q, N, bs, bm, sn, sub, ab, col, dd, k0, k1, k2, k3, k5, xL, rv⟩, sa, eC, tC, kC⟩
end Wq
open PySem PySem.W PyProof.Rows
set_option maxRecDepth 100000 in
set_option maxHeartbeats 0 in
theorem PySem.Challenge.cw_wordquarry_k85_whole_sure_kinds_holds : PySem.Challenge.rw_wordquarry_k85_whole_sure_kinds.Holds := by
  w_on; o_law; k_head; (case hw => w_witness2)
  k_fill
  refine Wq.walk (l := PySem.Challenge.rw_wordquarry_k85_whole_sure_kinds) rfl rfl (fun w h Y => PySem.W.kIn_of Y) ?F
  case F =>
    intro w mg fa h KX G hmg
    refine' Wq.all_mk KX G hmg
      ⟨PySem.W.mg_none_of KX G ?z1, PySem.W.mg_none_of KX G ?z2, PySem.W.mg_none_of KX G ?z3, PySem.W.mg_none_of KX G ?z4, PySem.W.mg_none_of KX G ?z5, PySem.W.mg_none_of KX G ?z6⟩
      ⟨PySem.W.mg_none_of KX G ?z7, PySem.W.mg_none_of KX G ?z8, PySem.W.mg_none_of KX G ?z9, PySem.W.mg_none_of KX G ?z10, ⟨_, PySem.W.mg_of KX G ?s1⟩, PySem.W.mg_none_of KX G ?z11⟩
      ⟨PySem.W.mg_none_of KX G ?z12, PySem.W.mg_none_of KX G ?z13, PySem.W.mg_none_of KX G ?z14⟩
      ⟨⟨⟨?c_pg, ?c_hd, ?c_po, ?c_sa⟩, ?c_n1, ?c_n2, ?c_n3, PySem.W.mg_of KX G ?gK⟩, ?c_mk, ?c_kp⟩
      ⟨Wq.oex_mk ?nxL ?nrv ?n_sa ?n_ex ?n_ty ?n_kp, Wq.ns2 ?n_n1 ?n_n2, PySem.W.mg_of KX G ?gN, ⟨?nx_ga, ?nx_gg, ?nx_ex, ?nx_hd⟩, PySem.W.exm_ref ?nm_ex ?nm_hd ?nm_ty ?nm_su⟩
      ⟨Wq.oex_mk ?rxL ?rrv ?r_sa ?r_ex ?r_ty ?r_kp, Wq.ns1 ?r_n1, PySem.W.mg_of KX G ?gR, ⟨?rx_ga, ?rx_gg, ?rx_ex, ?rx_hd⟩, PySem.W.exm_ref ?rm_ex ?rm_hd ?rm_ty ?rm_su⟩
      (PySem.W.exm_ref ?q_ex ?q_hd ?q_ty ?q_su)
      ?d6 ?d7 ?d10 ?d11 ?d12 ?d13 ?d14 ?d16 ?d17 ?d18 ?d19 ?d20 ?d21 ?d22 ?d23 ?d24 ?n0 ?r0 ?k0 ?k1
    (case gK => k_is)
    (case gN => k_is)
    (case gR => k_is)
    (case d6 => (refine' Wq.def_mk KX G ?a ?l ?c ?k; (case a => k_is); (case l => k_is); (case c => k_is); (case k => k_is)))
    (case d7 => (refine' Wq.def_mk KX G ?a ?l ?c ?k; (case a => k_is); (case l => k_is); (case c => k_is); (case k => k_is)))
    (case d10 => (refine' Wq.def_mk KX G ?a ?l ?c ?k; (case a => k_is); (case l => k_is); (case c => k_is); (case k => k_is)))
    (case d11 => (refine' Wq.def_mk KX G ?a ?l ?c ?k; (case a => k_is); (case l => k_is); (case c => k_is); (case k => k_is)))
    (case d12 => (refine' Wq.def_mk KX G ?a ?l ?c ?k; (case a => k_is); (case l => k_is); (case c => k_is); (case k => k_is)))
    (case d13 => (refine' Wq.def_mk KX G ?a ?l ?c ?k; (case a => k_is); (case l => k_is); (case c => k_is); (case k => k_is)))
    (case d14 => (refine' Wq.def_mk KX G ?a ?l ?c ?k; (case a => k_is); (case l => k_is); (case c => k_is); (case k => k_is)))
    (case d16 => (refine' Wq.def_mk KX G ?a ?l ?c ?k; (case a => k_is); (case l => k_is); (case c => k_is); (case k => k_is)))
    (case d17 => (refine' Wq.def_mk KX G ?a ?l ?c ?k; (case a => k_is); (case l => k_is); (case c => k_is); (case k => k_is)))
    (case d18 => (refine' Wq.def_mk KX G ?a ?l ?c ?k; (case a => k_is); (case l => k_is); (case c => k_is); (case k => k_is)))
    (case d19 => (refine' Wq.def_mk KX G ?a ?l ?c ?k; (case a => k_is); (case l => k_is); (case c => k_is); (case k => k_is)))
    (case d20 => (refine' Wq.def_mk KX G ?a ?l ?c ?k; (case a => k_is); (case l => k_is); (case c => k_is); (case k => k_is)))
    (case d21 => (refine' Wq.def_mk KX G ?a ?l ?c ?k; (case a => k_is); (case l => k_is); (case c => k_is); (case k => k_is)))
    (case d22 => (refine' Wq.def_mk KX G ?a ?l ?c ?k; (case a => k_is); (case l => k_is); (case c => k_is); (case k => k_is)))
    (case d23 => (refine' Wq.def_mk KX G ?a ?l ?c ?k; (case a => k_is); (case l => k_is); (case c => k_is); (case k => k_is)))
    (case d24 => (refine' Wq.def_mk KX G ?a ?l ?c ?k; (case a => k_is); (case l => k_is); (case c => k_is); (case k => k_is)))
    (case n0 => (refine' Wq.m_mk ?a ?i ?l ?c ?k; (case a => k_is); (case i => k_is); (case l => k_is); (case c => k_is); (case k => k_is)))
    (case r0 => (refine' Wq.m_mk ?a ?i ?l ?c ?k; (case a => k_is); (case i => k_is); (case l => k_is); (case c => k_is); (case k => k_is)))
    (case k0 => (refine' Wq.m_mk ?a ?i ?l ?c ?k; (case a => k_is); (case i => k_is); (case l => k_is); (case c => k_is); (case k => k_is)))
    (case k1 => (refine' Wq.m_mk ?a ?i ?l ?c ?k; (case a => k_is); (case i => k_is); (case l => k_is); (case c => k_is); (case k => k_is)))
    (case nxL => first | k_is | rfl)
    (case nrv => first | rfl | decide +kernel)
    (case rxL => first | k_is | rfl)
    (case rrv => first | rfl | decide +kernel)
    (case z1 => first | k_is | rfl)
    (case z2 => first | k_is | rfl)
    (case z3 => first | k_is | rfl)
    (case z4 => first | k_is | rfl)
    (case z5 => first | k_is | rfl)
    (case z6 => first | k_is | rfl)
    (case z7 => first | k_is | rfl)
    (case z8 => first | k_is | rfl)
    (case z9 => first | k_is | rfl)
    (case z10 => first | k_is | rfl)
    (case z11 => first | k_is | rfl)
    (case z12 => first | k_is | rfl)
    (case z13 => first | k_is | rfl)
    (case z14 => first | k_is | rfl)
    (case s1 => first | k_is | rfl)
    (case c_pg => first | k_is | rfl)
    (case c_hd => first | k_is | rfl)
    (case c_po => first | k_is | rfl)
    (case c_sa => first | k_is | rfl)
    (case c_n1 => first | k_is | rfl)
    (case c_n2 => first | k_is | rfl)
    (case c_n3 => first | k_is | rfl)
    (case c_mk => first | k_is | rfl)
    (case c_kp => first | k_is | rfl)
    (case n_sa => first | k_is | rfl)
    (case n_ex => first | k_is | rfl)
    (case n_ty => first | k_is | rfl)
    (case n_kp => first | k_is | rfl)
    (case n_n1 => first | k_is | rfl)
    (case n_n2 => first | k_is | rfl)
    (case nx_ga => first | k_is | rfl)
    (case nx_gg => first | k_is | rfl)
    (case nx_ex => first | k_is | rfl)
    (case nx_hd => first | k_is | rfl)
    (case nm_ex => first | k_is | rfl)
    (case nm_hd => first | k_is | rfl)
    (case nm_ty => first | k_is | rfl)
    (case nm_su => first | k_is | rfl)
    (case r_sa => first | k_is | rfl)
    (case r_ex => first | k_is | rfl)
    (case r_ty => first | k_is | rfl)
    (case r_kp => first | k_is | rfl)
    (case r_n1 => first | k_is | rfl)
    (case rx_ga => first | k_is | rfl)
    (case rx_gg => first | k_is | rfl)
    (case rx_ex => first | k_is | rfl)
    (case rx_hd => first | k_is | rfl)
    (case rm_ex => first | k_is | rfl)
    (case rm_hd => first | k_is | rfl)
    (case rm_ty => first | k_is | rfl)
    (case rm_su => first | k_is | rfl)
    (case q_ex => first | k_is | rfl)
    (case q_hd => first | k_is | rfl)
    (case q_ty => first | k_is | rfl)
    (case q_su => first | k_is | rfl)
