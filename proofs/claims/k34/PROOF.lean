import PyProof.Rows.All
import Wide.All
import OpenK.AllK
import Wide.FinOn
import HandS.Base
import HandS.Call
import HandS.List
import HandS.Ends
import HandS.Words
import HandS.Dict
import HandS.Comp
import HandS.Iter
import HandS.Text
import HandS.WordsList
import HandS.Codes
import HandS.Style
import HandS.Wide
import HandS.SortKw
import HandS.WideBits
import HandS.DeepEq
import HandS.NoneIn
import HandS.ExcInit
import HandS.ExcField
import HandS.ExcIs
import HandS.ExcValue
import HandS.ExcOwn
import HandS.IsInst
import HandS.WordsExc
import HandS.TupAny
import KE.KExcIs
import HandS.NamedTupSort
import KE.DataMinMax
import KE.LtData
import HandS.Walk
import HandS.StrMore
import HandS.TupMul
import PySem.Challenge.RW_wordquarry_k34_whole_weights_and_cuts
set_option Elab.async false
set_option linter.all false
set_option maxRecDepth 100000
set_option maxHeartbeats 2000000
/-! promises of defs that are called where nothing is being shown (repr is known there) -/
namespace Wq
open PySem PySem.Spec PyProof.Rows L2
structure FnG (P : Program) (w : World) (K : PySem.W.Frag) (mg : Str → Option Value) (base : Heap) (CX : CXT) (k : Nat) (f : Addr) (fd : FuncData) (ps : List Str) (sp : Sp) : Prop where
  len : ∀ vs H Q E, sp vs H Q E → vs.length = ps.length
  go : ∀ (A : Around), Room k A → A.guards = some [] → ∀ (outer : List Env) (s : Shared) (H : Hp) (args : Args) (us : List Value) (vs : List V) (Q : VK) (E : XK), Env0 P w K mg base A outer s H → BindsTo s fd args (ps.zip us) → Vals vs us → sp vs H Q E → codeAny (model P w) A (.call (.ref f) args) (CR CX outer P w H s Q E) s
section
variable {P : Program} {w : World} {K : PySem.W.Frag} {mg : Str → Option Value} {base : Heap} {CX : CXT} {k : Nat} {f : Addr} {fd : FuncData} {ps : List Str} {sp : Sp}
theorem FnG.of (F : FnOk P w K mg base CX k f fd ps sp) : FnG P w K mg base CX k f fd ps sp := ⟨F.len, fun A hr _ outer s H args us vs Q E => F.run A outer s H args us vs Q E hr⟩
theorem FnG.mono {j : Nat} (F : FnG P w K mg base CX j f fd ps sp) (h : j ≤ k) : FnG P w K mg base CX k f fd ps sp := ⟨F.len, fun A hr hg => F.go A (hr.mono h) hg⟩
end
theorem deep_g {A : Around} {e : Env} (h : A.guards = some []) : (A.deeper e).guards = some [] := h
/-- a def by its body, where nothing is being shown -/
theorem fnG_of {CX : CXT} {P : Program} {w : World} {K : PySem.W.Frag} {mg : Str → Option Value} {base : Heap} {k : Nat} {f : Addr} {x qual : Str} {pm : Arguments} {body : List Stmt} {sc : Scope} {dV kV doc pv cdv ct oc : Value} {an od : Option Addr} {osl : Array (Option Value)} {N ps : List Str} {sp : Sp}
    (lk : K.lookup f = some ⟨oc, od, .func (PySem.W.fnOf x qual pm body sc dV kV doc pv an cdv ct), osl⟩) (hcd : PySem.W.codeIn K cdv qual = true) (S : FnScope N ps sc) (len : ∀ vs H Q E, sp vs H Q E → vs.length = ps.length)
    (hbody : ∀ (A : Around), A.guards = some [] → ∀ (outer : List Env) (s : Shared) (H : Hp) (vs : List V) (Q : VK) (E : XK), Room k (A.deeper (envOfC qual sc s.heap.objs.size f cdv)) → sp vs H Q E →
      ∃ t, PSs (cxOf CX P w K mg base N qual sc f cdv A outer s H E) body t ∧ t { nx := fun _ H' => Q .non H', rt := Q } (start N vs) H) :
    FnG P w K mg base CX (k + 1) f (PySem.W.fnOf x qual pm body sc dV kV doc pv an cdv ct) ps sp := by
  refine ⟨len, fun A hr hg outer s H args us vs Q E e0 hb r hsp => ?_⟩
  obtain ⟨t, ht, hq⟩ := hbody A hg outer s H vs Q E (hr.deeper _) hsp
  have up : ∀ b o, base.get? b = some o → s.heap.get? b = some o := fun b o e => (e0.bs b o e).1
  have KX : K.In s.heap := e0.mod.kin.keeps up
  have kinds : ∀ y ∈ ps.zip us, sc.names.lookup y.1 = some .local ∨ (sc.names.lookup y.1 = some .cell ∧ ((cellsFrom (s.heap.objs.size + 1) sc.names []).lookup y.1).isSome = true) := by
    rintro ⟨n, v⟩ hy
    exact (S.par n (List.of_mem_zip hy).1).imp id fun q => ⟨q, PySem.W.cellsFrom_some _ _ _ (.inl q)⟩
  refine codeAny_call_function hr.depth (KX _ _ lk) rfl S.co S.gen rfl (PySem.W.codeRec_of KX hcd) (hb _ _ _ _ (wpAny_newFunctionEnv_cells S.kind kinds fun env he s1 x => ?_))
  subst he
  refine ⟨(e0.mod.nolimit.keeps up).keeps x.toInCall.keep, codeAny_func ?_⟩
  refine wpAny_mono (ht.run [] s1 (start N vs) H _ (inv_start S hr.hd e0 (len _ _ _ _ hsp) r x) hq) (fun fl s' hs => ?_) fun _ _ hs => hs
  cases fl with
  | brk => obtain ⟨_, _, _, q⟩ := hs; exact q.elim
  | cont => obtain ⟨_, _, _, q⟩ := hs; exact q.elim
  | next =>
    obtain ⟨σ', H', J, q⟩ := hs
    exact ⟨.non, H', J.os, J.bare, J.base, J.hok, rfl, q⟩
  | ret u =>
    obtain ⟨v, σ', H', J, rv, q⟩ := hs
    exact ⟨v, H', J.os, J.bare, J.base, J.hok, rv, q⟩
section
variable {X : Cx} {CX : CXT} {k : Nat} {f : Addr} {fd : FuncData} {ps : List Str} {sp : Sp} {ds : List Value} {dvs : List V} {E : XK} {x : Str} {p pos : Pos} {e : Expr} {es : List Expr} {t : TA}
theorem run_g {pins : List (Addr × Obj)} {σ : L2.St} {H : Hp} {s : Shared} {Q : VK} {us : List Value} {vs : List V} (F : FnG X.prog X.w X.K X.mg X.base CX k f fd ps sp) (hr : Room k X.A) (hG : X.A.guards = some []) (hb : Binds X.K fd ps ds) (hd : Vals dvs ds) (hx : Passes CX X E)
    (I : Inv X pins σ H s) (r : Vals vs us) (h : sp (vs ++ dvs) H Q E) : wpAny (model X.prog X.w) X.A (call (.ref f) us) (EP X pins σ Q) X.xe s := by
  have r2 := r.append hd
  have hl : (us ++ ds).length = ps.length := r2.length.symm.trans (F.len _ _ _ _ h)
  refine wpAny_call (codeAny_mono (F.go X.A hr hG X.stack s H ⟨us, []⟩ _ _ Q E I.env0 (hb s us I.kIn hl) r2 h) fun r s' hq => ?_)
  match r, hq with
  | .error e, hq => exact hx pins σ H s e s' I hq
  | .ok (.ret u), hq => exact I.after hq
theorem pe_callG (F : FnG X.prog X.w X.K X.mg X.base CX k f fd ps sp) (hr : Room k X.A) (hG : X.A.guards = some []) (hg : Gl X x) (hm : X.mg x = some (.ref f)) (hk : PySem.W.keepIn X.K (.ref f) = true) (hb : Binds X.K fd ps ds) (hd : Vals dvs ds) (hx : Passes CX X E) (ha : PA X (e :: es) t)
    (hdb : (x == ("__debug__" : Str)) = false := by decide) (he : starEach (e :: es) X.env = (false, eval e X.env) :: starEach es X.env := by rfl) (hpl : (backTo pos (starEach es X.env)).any (·.1) = false := by rfl) : PE X (.Call (.Name x p) (e :: es) [] pos) (tCall sp dvs E t) :=
  ⟨fun pins s σ H Q I h => wpAny_Call_Name_kw (ld_glob I hg hm (PySem.W.callWith_K (h₀ := X.base) I.ok.mod.kin hk (thn (ha.run pos pins s σ H _ I h) fun us s1 ⟨vs, H1, I1, r, q⟩ => ⟨I1.kIn, run_g F hr hG hb hd hx I1 r q⟩) he hpl) hdb)⟩
end
end Wq
set_option Elab.async false
set_option linter.all false
set_option maxRecDepth 100000
set_option maxHeartbeats 2000000
/-! repr where nothing is being shown: flat values, {}, lists and tuples of them, two deep -/
namespace Wq
open PySem PySem.Spec PyProof.Rows L2
mutual
/-- what a value shows -/
inductive Sh (K : PySem.W.Frag) (H : Hp) : V → PyData → Prop
  | non : Sh K H .non .none
  | bl (b : Bool) : Sh K H (.bl b) (.bool b)
  | int (i : Int) : Sh K H (.int i) (.int i)
  | str (x : Str) : Sh K H (.str x) (.str x)
  | emp {a : Addr} : H a = some (.dK []) → Sh K H (.ref a) (.dict [])
  | lst {a : Addr} {xs : List V} {ds : List PyData} : SqL K H a xs → a ≠ sysModules → ShAll K H xs ds → Sh K H (.ref a) (.list ds)
  | tup {a : Addr} {xs : List V} {ds : List PyData} : SqT K H a xs → ShAll K H xs ds → Sh K H (.ref a) (.tuple ds)
inductive ShAll (K : PySem.W.Frag) (H : Hp) : List V → List PyData → Prop
  | nil : ShAll K H [] []
  | cons {v : V} {vs : List V} {d : PyData} {ds : List PyData} : Sh K H v d → ShAll K H vs ds → ShAll K H (v :: vs) (d :: ds)
end
section
variable {X : Cx} {pins : List (Addr × Obj)} {σ : L2.St} {H : Hp} {s : Shared}
mutual
theorem Sh.reads (I : Inv X pins σ H s) : ∀ (d : PyData) (v : V) (u : Value), Sh X.K H v d → RelV v u → ∃ as, Reads s.heap u d as ∧ sysModules ∉ as
  | .none, _, _, h, r => by
    cases h; cases r
    exact ⟨_, .none, by simp⟩
  | .bool b, _, _, h, r => by
    cases h; cases r
    exact ⟨_, .bool b, by simp⟩
  | .int i, _, _, h, r => by
    cases h
    obtain ⟨t, rfl⟩ := r
    exact ⟨_, .int i t, by simp⟩
  | .str x, _, _, h, r => by
    cases h
    obtain ⟨t, rfl⟩ := r
    exact ⟨_, .str x t, by simp⟩
  | .list ds, _, _, h, r => by
    cases h with
    | lst hs na ha =>
      cases r
      obtain ⟨its, rv, ⟨o, n, ho, hc, _, hd⟩, _⟩ := I.list hs
      obtain ⟨as, hr, hn⟩ := Sh.readsAll I ds _ its ha rv
      refine ⟨_, .list ho hc hd hr, fun z => ?_⟩
      rcases List.mem_cons.mp z with e | e
      · exact na e.symm
      · exact hn e
  | .tuple ds, _, _, h, r => by
    cases h with
    | tup hs ha =>
      cases r
      obtain ⟨its, rv, ⟨o, ho, hc, n, hd⟩, _⟩ := I.tuple hs
      obtain ⟨as, hr, hn⟩ := Sh.readsAll I ds _ its ha rv
      exact ⟨_, .tuple ho hc hd hr, hn⟩
  | .dict kvs, _, _, h, r => by
    cases h with
    | @emp a he =>
      cases r
      obtain ⟨_, hs, vs, kv, o, es, ep, ho, hx, hd, _, hp, _⟩ := I.hok a _ he
      cases kv
      cases hl : es.toList with
      | cons e l =>
        rw [hl] at hp
        cases hp
      | nil =>
        refine ⟨_, .dict ho hx.1 hd (as := []) (bs := []) (by rw [hl]; exact .nil) (by rw [hl]; exact .nil), fun z => ?_⟩
        have z : sysModules = a := by simpa using z
        rw [← z] at hs
        simp at hs
theorem Sh.readsAll (I : Inv X pins σ H s) : ∀ (ds : List PyData) (vs : List V) (us : List Value), ShAll X.K H vs ds → Vals vs us → ∃ as, ReadsAll s.heap us ds as ∧ sysModules ∉ as
  | [], _, _, h, r => by
    cases h; cases r
    exact ⟨_, .nil, by simp⟩
  | d :: ds, _, _, h, r => by
    cases h with
    | cons h1 h2 =>
      cases r with
      | cons r1 r2 =>
        obtain ⟨as, q1, n1⟩ := Sh.reads I d _ _ h1 r1
        obtain ⟨bs, q2, n2⟩ := Sh.readsAll I ds _ _ h2 r2
        refine ⟨_, .cons q1 q2, fun z => ?_⟩
        rcases List.mem_append.mp z with e | e
        · exact n1 e
        · exact n2 e
end
end
def rRepr (K : PySem.W.Frag) : List V → Hp → VK → Prop := fun xs H Q => ∃ (v : V) (d : PyData), xs = [v] ∧ Sh K H v d ∧ d.showable = true ∧ d.depth ≤ 60 ∧ d.shown.length ≤ sizeLine ∧ Q (.str d.shown) H
theorem call_repr {X : Cx} (hG : X.A.guards = some []) (hu : X.A.units + 64 < cLine) : CallR X (.builtin "repr") (rRepr X.K) := by
  intro pins s σ H xs us Q I r h
  obtain ⟨v, d, rfl, hv, hs, hd, hl, q⟩ := h
  obtain ⟨u, rfl, ru⟩ := vals1 r
  obtain ⟨as, rd, na⟩ := hv.reads I d v u ru
  have big : ∀ a, u = .ref a → wpAny (model X.prog X.w) X.A (call (.builtin "repr") [u]) (EP X pins σ Q) X.xe s := by
    rintro a rfl
    exact PySem.repr_of_reads' rd hs (fun _ => na) hG (by omega) (fun _ _ e => e) (fun h' u tk hk => ⟨.str d.shown, H, I.kept hk, ⟨u, rfl⟩, q⟩) hl
  cases hv with
  | non => cases ru; exact PySem.P.repr_of_none ⟨.str _, H, I.tok _, ⟨_, rfl⟩, q⟩
  | bl b => cases ru; exact PySem.P.repr_of_bool ⟨.str _, H, I.tok _, ⟨_, rfl⟩, q⟩
  | int i => obtain ⟨t, rfl⟩ := ru; exact PySem.P.repr_of_int (of_decide_eq_true hs) ⟨.str _, H, I.tok _, ⟨_, rfl⟩, q⟩
  | str x => obtain ⟨t, rfl⟩ := ru; exact PySem.P.repr_of_str (h := ⟨.str _, H, I.tok _, ⟨_, rfl⟩, q⟩) (hsz := hl)
  | emp e => exact big _ ru
  | lst a b c => exact big _ ru
  | tup a b => exact big _ ru
/-- a new list, apart from the dict of modules -/
def tLstN (t : TA) : TE := fun σ H Q => t σ H fun xs H1 => xs.length ≤ sizeLine ∧ ∀ p, H1 p = none → p ≠ sysModules → Q (.ref p) (upd H1 p (.lst xs))
theorem pe_lstN {X : Cx} {es : List Expr} {t : TA} {pos : Pos} (h : PA X es t) : PE X (.List es pos) (tLstN t) := by
  refine ⟨fun pins s σ H Q I hq => wpAny_List_spliced (thn (h.run pos pins s σ H _ I hq) fun us s1 ⟨xs, H1, I1, r, z, q⟩ => ⟨by rw [← r.length]; exact z, ?_⟩)⟩
  have hf : H1 s1.heap.objs.size = none := I1.hok.fresh (Nat.le_refl _)
  have hb := I1.big
  exact ⟨.ref s1.heap.objs.size, upd H1 s1.heap.objs.size (.lst xs), I1.laid (t' := s1.toks) (fun b u e => Heap.get?_push_of_some _ e) (Nat.le_refl _) ⟨z, us, 0, r, Heap.get?_push_size _ rfl⟩, rfl, q _ hf (Nat.ne_of_gt hb)⟩
end Wq
set_option Elab.async false
set_option linter.all false
set_option maxRecDepth 100000
set_option maxHeartbeats 2000000
namespace Wq
open PySem PySem.Spec PyProof.Rows L2
def top (i : Nat) : Stmt := PySem.Challenge.pw_wordquarry_k34_whole_weights_and_cuts.main.body.getD i (.Pass ⟨0, 0, 0, 0⟩)
/-! callables by name -/
structure Cl (P : Program) (w : World) (K : PySem.W.Frag) (mg : Str → Option Value) (base : Heap) (k : Nat) (x : Str) (sp : Sp) : Prop where
  ex : ∃ (f : Addr) (fd : FuncData) (ps : List Str), FnOk P w K mg base CX0 k f fd ps sp ∧ mg x = some (.ref f) ∧ PySem.W.keepIn K (.ref f) = true ∧ Binds K fd ps []
structure DefAt (K : PySem.W.Frag) (mg : Str → Option Value) (x : Str) (st : Stmt) : Prop where
  ex : ∃ (f : Addr) (fd : FuncData), Fun K x x st f fd ∧ mg x = some (.ref f)
theorem def_mk {h : Heap} {mg : Str → Option Value} {K : PySem.W.Frag} {x : Str} {st : Stmt} {f : Addr} {oc : Value} {od an : Option Addr} {osl : Array (Option Value)} {kV doc pm cdv ct : Value} (X : K.In h) (G : h.Ns mainGlobals mg)
    (a : PySem.W.nsIn K mainGlobals x = some (some (.ref f))) (l : K.lookup f = some ⟨oc, od, .func (PySem.W.fnOf x x (defArgs st) (defBody st) (defScope st) .none kV doc pm an cdv ct), osl⟩)
    (c : PySem.W.codeIn K cdv x = true) (k : PySem.W.keepIn K (.ref f) = true) : DefAt K mg x st := ⟨f, _, fun_mk l c k, PySem.W.mg_of X G a⟩
section
variable {X : Cx} {k j : Nat} {x : Str} {sp : Sp} {p pos : Pos} {e : Expr} {es : List Expr} {t : TA}
theorem pe_cl (c : Cl X.prog X.w X.K X.mg X.base k x sp) (hr : Room j X.A) (hk : k ≤ j) (hg : Gl X x) (ha : PA X (e :: es) t)
    (hdb : (x == ("__debug__" : Str)) = false := by decide) (he : starEach (e :: es) X.env = (false, eval e X.env) :: starEach es X.env := by rfl) (hpl : (backTo pos (starEach es X.env)).any (·.1) = false := by rfl) :
    PE X (.Call (.Name x p) (e :: es) [] pos) (tCall sp [] E0 t) := by
  obtain ⟨f, fd, ps, F, hm, kp, b⟩ := c.ex
  exact pe_call F (hr.mono hk) hg hm kp b .nil pass0 ha hdb he hpl
end
section
variable {P : Program} {w : World} {K : PySem.W.Frag} {mg : Str → Option Value} {base : Heap}
theorem cl_of {x : Str} {st : Stmt} {N ps : List Str} {k : Nat} {sp : Sp} (D : DefAt K mg x st) (S : FnScope N ps (defScope st)) (len : ∀ vs H Q E, sp vs H Q E → vs.length = ps.length)
    (hb : ∀ (kV doc pm : Value) (an : Option Addr) (cdv ct : Value) (us : List Value), us.length = ps.length → bindArgs (PySem.W.fnOf x x (defArgs st) (defBody st) (defScope st) .none kV doc pm an cdv ct) ⟨us, []⟩ = pure (ps.zip us))
    (hbody : ∀ (f : Addr) (cdv : Value) (A : Around) (outer : List Env) (s : Shared) (H : Hp) (vs : List V) (Q : VK) (E : XK), Room k (A.deeper (envOfC x (defScope st) s.heap.objs.size f cdv)) → sp vs H Q E →
      ∃ t, PSs (cxOf CX0 P w K mg base N x (defScope st) f cdv A outer s H E).nox (defBody st) t ∧ t { nx := fun _ H' => Q .non H', rt := Q } (start N vs) H) : Cl P w K mg base (k + 1) x sp := by
  obtain ⟨f, fd, F, hm⟩ := D.ex
  exact ⟨f, fd, ps, F.ok S len (hbody f), hm, F.kp, F.binds hb⟩
/-! what the law's own words want of the top -/
structure Txt (K : PySem.W.Frag) (mg : Str → Option Value) : Prop where
  len : mg "len" = none
  int : mg "int" = none
  list : mg "list" = none
  range : mg "range" = none
  tuple : mg "tuple" = none
  min : mg "min" = none
/-! the pen -/
abbrev kv (s : Str) (v : V) : Key × V := (Sum.inr s, v)
def penD (c : Addr) (i d n f : Int) : List (Key × V) := [kv "cells" (.ref c), kv "at" (.int i), kv "digits" (.int d), kv "count" (.int n), kv "fold" (.int f)]
structure PenAt (H : Hp) (p c : Addr) (m : Nat) : Prop where
  ex : ∃ (ns : List Int) (i d f : Int) (n : Nat), H p = some (.dK (penD c i d n f)) ∧ H c = some (.lst (ns.map V.int)) ∧ 0 ≤ i ∧ 0 ≤ d ∧ n ≤ m ∧ 0 ≤ f ∧ f < 2147483587
theorem SqL_upd {H : Hp} {p c : Addr} {xs : List V} {kvs : List (Key × V)} {o : HO} (h : SqL K H c xs) (hp : H p = some (.dK kvs)) : SqL K (upd H p o) c xs := by
  rcases h with (h | ⟨u, h⟩) | h
  · refine .inl (.inl ?_)
    rw [upd_ne (ne_of h hp (by intro z; cases z))]
    exact h
  · refine .inl (.inr ⟨u, ?_⟩)
    rw [upd_ne (ne_of h hp (by intro z; cases z))]
    exact h
  · exact .inr h
section
variable {H : Hp} {p c : Addr} {i d n f x : Int}
theorem g_cells (h : H p = some (.dK (penD c i d n f))) : DGet H p (.str "cells") (some (.ref c)) := DGet.k (k := Sum.inr "cells") h
theorem g_at (h : H p = some (.dK (penD c i d n f))) : DGet H p (.str "at") (some (.int i)) := DGet.k (k := Sum.inr "at") h
theorem g_digits (h : H p = some (.dK (penD c i d n f))) : DGet H p (.str "digits") (some (.int d)) := DGet.k (k := Sum.inr "digits") h
theorem g_count (h : H p = some (.dK (penD c i d n f))) : DGet H p (.str "count") (some (.int n)) := DGet.k (k := Sum.inr "count") h
theorem g_fold (h : H p = some (.dK (penD c i d n f))) : DGet H p (.str "fold") (some (.int f)) := DGet.k (k := Sum.inr "fold") h
theorem p_count (h : H p = some (.dK (penD c i d n f))) : DPut H p (.str "count") (.int x) (upd H p (.dK (penD c i d x f))) := DPut.k (k := Sum.inr "count") h (by show 5 < sizeLine; decide)
theorem p_at : DPut (upd H p (.dK (penD c i d n f))) p (.str "at") (.int x) (upd H p (.dK (penD c x d n f))) := by
  have e := DPut.k (k := Sum.inr "at") (v := .int x) (upd_same (H := H) (a := p) (o := .dK (penD c i d n f))) (by show 5 < sizeLine; decide)
  rw [upd_upd] at e
  exact e
theorem p_digits : DPut (upd H p (.dK (penD c i d n f))) p (.str "digits") (.int x) (upd H p (.dK (penD c i x n f))) := by
  have e := DPut.k (k := Sum.inr "digits") (v := .int x) (upd_same (H := H) (a := p) (o := .dK (penD c i d n f))) (by show 5 < sizeLine; decide)
  rw [upd_upd] at e
  exact e
theorem p_fold : DPut (upd H p (.dK (penD c i d n f))) p (.str "fold") (.int x) (upd H p (.dK (penD c i d n x))) := by
  have e := DPut.k (k := Sum.inr "fold") (v := .int x) (upd_same (H := H) (a := p) (o := .dK (penD c i d n f))) (by show 5 < sizeLine; decide)
  rw [upd_upd] at e
  exact e
end
theorem PenAt.mono {H : Hp} {p c : Addr} {m m' : Nat} (h : PenAt H p c m) (hm : m ≤ m') : PenAt H p c m' := by
  obtain ⟨ns, i, d, f, n, h1, h2, h3, h4, h5, h6, h7⟩ := h.ex
  exact ⟨ns, i, d, f, n, h1, h2, h3, h4, by omega, h6, h7⟩
theorem PenAt.same {H H' : Hp} {p c : Addr} {m : Nat} (h : PenAt H p c m) (s : Same H H') : PenAt H' p c m := by
  obtain ⟨ns, i, d, f, n, h1, h2, h3⟩ := h.ex
  exact ⟨ns, i, d, f, n, s _ _ h1, s _ _ h2, h3⟩
theorem PenAt.dict {H : Hp} {p c : Addr} {m : Nat} (h : PenAt H p c m) : ∃ kvs, H p = some (.dK kvs) := by
  obtain ⟨ns, i, d, f, n, h1, _⟩ := h.ex
  exact ⟨_, h1⟩
theorem PenAt.cells {H : Hp} {p c : Addr} {m : Nat} (h : PenAt H p c m) : ∃ xs, H c = some (.lst xs) := by
  obtain ⟨ns, i, d, f, n, h1, h2, _⟩ := h.ex
  exact ⟨_, h2⟩
theorem PenAt.put {H : Hp} {p c l : Addr} {m : Nat} {o : HO} (h : PenAt H p c m) (hp : p ≠ l) (hc : c ≠ l) : PenAt (upd H l o) p c m := by
  obtain ⟨ns, i, d, f, n, h1, h2, h3⟩ := h.ex
  exact ⟨ns, i, d, f, n, by rw [upd_ne hp]; exact h1, by rw [upd_ne hc]; exact h2, h3⟩
theorem PenAt.ne {H : Hp} {p c l : Addr} {m : Nat} {o : HO} (h : PenAt H p c m) (hl : H l = some o) (ho : ∀ kvs, o ≠ .dK kvs) : l ≠ p := by
  obtain ⟨kvs, hk⟩ := h.dict
  exact ne_of hl hk (ho kvs)
/-- the pen moved on: lists stay -/
theorem PenAt.lst {H : Hp} {p c l : Addr} {m : Nat} {xs : List V} {o : HO} (h : PenAt H p c m) (hl : H l = some (.lst xs)) : upd H p o l = some (.lst xs) := by
  rw [upd_ne (h.ne hl (by intro kvs z; cases z))]
  exact hl
abbrev sPen : Stmt := top 23
abbrev sDraw : Stmt := top 24
abbrev sPick : Stmt := top 25
def spPen (K : PySem.W.Frag) : Sp := fun vs H Q _ => ∃ (a : Addr) (ns : List Int), vs = [.ref a] ∧ SqL K H a (ns.map V.int) ∧ ∀ p c H', H p = none → Same H H' → PenAt H' p c 0 → Q (.ref p) H'
def spDraw (K : PySem.W.Frag) : Sp := fun vs H Q _ => ∃ (p c : Addr) (m : Nat) (many : Int), vs = [.ref p, .int many] ∧ PenAt H p c m ∧ m < 1099511627776 ∧ 0 < many ∧ many.natAbs.log2 < 9000 ∧
  ∀ (v : Int) (o : HO), 0 ≤ v → v < many → PenAt (upd H p o) p c (m + 1) → Q (.int v) (upd H p o)
/-- what may be picked from: a list, a tuple, a text -/
inductive Some (K : PySem.W.Frag) (H : Hp) : V → List V → Prop
  | lst {l xs} : SqL K H l xs → Some K H (.ref l) xs
  | tup {l xs} : SqT K H l xs → Some K H (.ref l) xs
  | str {z} : z.length ≤ sizeLine → Some K H (.str z) (z.cps.toList.map fun c => V.str ⟨#[c]⟩)
def spPick (K : PySem.W.Frag) : Sp := fun vs H Q _ => ∃ (p c : Addr) (m : Nat) (u : V) (xs : List V), vs = [.ref p, u] ∧ PenAt H p c m ∧ Some K H u xs ∧ m < 1099511627776 ∧ 0 < xs.length ∧ xs.length < 1073741824 ∧
  ∀ (i : Nat) (v : V) (o : HO), xs[i]? = some v → PenAt (upd H p o) p c (m + 1) → Q v (upd H p o)
theorem scPen : FnScope ["_law_script", "_law_fold", "_law_cell"] ["_law_script"] (defScope sPen) := ⟨rfl, rfl, rfl, by decide +kernel, rfl, by decide +kernel, by decide +kernel⟩
theorem scDraw : FnScope ["_law_pen_here", "_law_many", "_law_cell", "_law_digit", "_law_mixed"] ["_law_pen_here", "_law_many"] (defScope sDraw) := ⟨rfl, rfl, rfl, by decide +kernel, rfl, by decide +kernel, by decide +kernel⟩
theorem scPick : FnScope ["_law_pen_here", "_law_some"] ["_law_pen_here", "_law_some"] (defScope sPick) := ⟨rfl, rfl, rfl, by decide +kernel, rfl, by decide +kernel, by decide +kernel⟩
theorem ints_at {ns : List Int} {i : Nat} {y : V} (hi : (ns.map V.int)[i]? = some y) : ∃ z, y = V.int z := by
  rw [List.getElem?_map] at hi
  cases e : ns[i]? with
  | none =>
    rw [e] at hi
    cases hi
  | some z =>
    rw [e] at hi
    exact ⟨z, (Option.some.inj hi).symm⟩
theorem ok_pen (D : DefAt K mg "_law_pen" sPen) (T : Txt K mg) : Cl P w K mg base 1 "_law_pen" (spPen K) := by
  refine cl_of D scPen (fun vs H Q E h => ?_) (fun _ _ _ _ _ _ us hl => match us, hl with | [_], _ => rfl) (fun f cdv A outer s H vs Q E hr h => ?_)
  · obtain ⟨a, ns, rfl, _⟩ := h
    rfl
  · obtain ⟨a, ns, rfl, hS, k⟩ := h
    refine ⟨_, pss_cons (ps_set (i := 1) scPen.nd rfl (Or.inl rfl) pe_int)
      (pss_cons (ps_for PassesOwn.never rfl (pi_list (pv 0)) (pg_name (i := 2) scPen.nd rfl (Or.inl rfl))
        (pss_one (ps_set (i := 1) scPen.nd rfl (Or.inl rfl) (pe_op op_mod (pe_callTy call_int1 (by rfl) (by exact T.int) PyProof.Rows.boot_int (pa_cons (pe_op op_add (pe_op op_mul (pv 1) pe_int) (pv 2)) pa_nil)) pe_int))))
      (pss_one (ps_ret (pe_disp (pps_cons pe_str (pe_callTy call_list_of (by rfl) (by exact T.list) (by decide +kernel) (pa_cons (pv 0) pa_nil)) (pps_cons pe_str pe_int (pps_cons pe_str pe_int (pps_cons pe_str pe_int (pps_cons pe_str (pv 1) pps_nil))))) (by rfl) (by rfl) (fun z => by cases z) (by decide))))), ?_⟩
    refine ⟨_, rfl, a, rfl, ⟨_, hS⟩, for_list (K := K) (a := a) (xs := ns.map V.int) (fun i σ H' => ∃ (n : Int) (v : Option V), σ = [some (.ref a), some (.int n), v] ∧ H' = H ∧ 0 ≤ n ∧ n < 1000000007)
      ⟨0, none, rfl, rfl, by decide, by decide⟩ (fun i σ H' _ ⟨_, _, _, e, _, _⟩ => by rw [e]; exact hS) ?_ ?_⟩
    · rintro i y σ H' hi ⟨n, v, rfl, rfl, h0, h1⟩
      obtain ⟨z, rfl⟩ := ints_at hi
      refine ⟨_, rfl, _, _, rfl, rfl, .inl ⟨by omega, by omega⟩, _, rfl, _, _, rfl, rfl, .inl ⟨_, rfl, _, _, rfl, rfl, (by show (0 : Int) < 1000000007; decide), ?_⟩⟩
      exact ⟨(n * 41 + z) % 1000000007, _, rfl, rfl, Int.emod_nonneg _ (by decide), Int.emod_lt_of_pos _ (by decide)⟩
    · rintro σ H' ⟨n, v, rfl, rfl, h0, h1⟩
      intro p hp
      have s1 : Same H' (upd H' p (.dK [])) := fun b o e => by rw [upd_ne (ne_of_none e hp)]; exact e
      refine ⟨_, rfl, a, _, rfl, .inl (s1.seq hS), fun l hl => ?_⟩
      have npl : p ≠ l := ne_of_none upd_same hl
      have s2 : Same H' (upd (upd (upd H' p (.dK [])) l (.lst (ns.map V.int))) p (.dK (mergeK [] (penD l 0 0 0 n)))) := fun b o e => by
        rw [upd_ne (ne_of_none e hp), upd_ne (ne_of_none (s1 b o e) hl)]
        exact s1 b o e
      refine ⟨_, rfl, by rw [upd_ne npl, upd_same], penD l 0 0 0 n, rfl, (by show 5 ≤ 15; decide), ?_⟩
      refine k p l _ hp s2 ⟨ns, 0, 0, n, 0, upd_same, ?_, by decide, by decide, by decide, h0, by omega⟩
      rw [upd_ne npl.symm, upd_same]
theorem ok_draw (D : DefAt K mg "_law_draw" sDraw) (T : Txt K mg) : Cl P w K mg base 1 "_law_draw" (spDraw K) := by
  refine cl_of D scDraw (fun vs H Q E h => ?_) (fun _ _ _ _ _ _ us hl => match us, hl with | [_, _], _ => rfl) (fun f cdv A outer s H vs Q E hr h => ?_)
  · obtain ⟨p, c, m, many, rfl, _⟩ := h
    rfl
  · obtain ⟨p, c, m, many, rfl, HP, hm, m0, m1, k⟩ := h
    obtain ⟨ns, i, d, f, n, hH, hc, hi, hd, hn, hf0, hf1⟩ := HP.ex
    have hu := hu_of hr
    refine ⟨_, pss_cons (ps_dput hu (pv 0) pe_str (pe_op op_add (pe_dget hu (pv 0) pe_str (fun _ _ => rfl)) pe_int) rfl)
      (C8.pss_cut (ps_if (PW.pt (pw_and (pt_cmpR op_eq (pe_dget hu (pv 0) pe_str (fun _ _ => rfl)) pe_int (nomark _)) (pw_and1 (pt_cmpR op_lt (pe_dget hu (pv 0) pe_str (fun _ _ => rfl)) (pe_callB call_len_seq (by rfl) (by exact T.len) PySem.boot_len (pa_cons (pe_dget hu (pv 0) pe_str (fun _ _ => rfl)) pa_nil)) (nomark _)))))
        (pss_cons (ps_set (i := 2) scDraw.nd rfl (Or.inl rfl) (pe_ix ix_list (pe_dget hu (pv 0) pe_str (fun _ _ => rfl)) (pe_dget hu (pv 0) pe_str (fun _ _ => rfl)) (fun _ _ => rfl)))
        (pss_cons (ps_dput hu (pv 0) pe_str (pe_op op_add (pe_dget hu (pv 0) pe_str (fun _ _ => rfl)) pe_int) rfl)
        (pss_one (ps_if (pt_cmpR op_ge (pv 2) (pe_op op_pow pe_int pe_int) (nomark _))
          (pss_one (ps_dput hu (pv 0) pe_str (pe_op op_sub (pv 2) (pe_op op_pow pe_int pe_int)) rfl))
          (pss_one (ps_dput hu (pv 0) pe_str (pe_op op_mod (pe_callTy call_int1 (by rfl) (by exact T.int) PyProof.Rows.boot_int (pa_cons (pe_op op_add (pe_op op_mul (pe_dget hu (pv 0) pe_str (fun _ _ => rfl)) pe_int) (pv 2)) pa_nil)) pe_int) rfl))))))
        pss_nil)
      (pss_cons (ps_if (pt_cmpR op_gt (pe_dget hu (pv 0) pe_str (fun _ _ => rfl)) pe_int (nomark _))
        (pss_cons (ps_set (i := 3) scDraw.nd rfl (Or.inl rfl) (pe_op op_modN (pe_callTy call_int1 (by rfl) (by exact T.int) PyProof.Rows.boot_int (pa_cons (pe_dget hu (pv 0) pe_str (fun _ _ => rfl)) pa_nil)) (pv 1)))
        (pss_cons (ps_dput hu (pv 0) pe_str (pe_op op_fdivW (pe_dget hu (pv 0) pe_str (fun _ _ => rfl)) (pv 1)) rfl)
        (pss_one (ps_ret (pv 3))))) pss_nil)
      (pss_cons (ps_set (i := 4) scDraw.nd rfl (Or.inl rfl) (pe_op op_add (pe_op op_add (pe_dget hu (pv 0) pe_str (fun _ _ => rfl)) (pe_op op_mul (pe_dget hu (pv 0) pe_str (fun _ _ => rfl)) pe_int)) pe_int))
      (pss_one (ps_ret (pe_op op_modN (pe_op op_fdivN (pe_callTy call_int1 (by rfl) (by exact T.int) PyProof.Rows.boot_int (pa_cons (pe_op op_modN (pe_op op_pow (pv 4) pe_int) pe_int) pa_nil)) pe_int) (pv 1))))))), ?_⟩
    -- count
    refine ⟨_, rfl, p, _, rfl, g_count hH, _, _, rfl, rfl, _, rfl, p, _, rfl, p_count hH, ?_⟩
    have S1 : ∀ o, upd H p o c = some (.lst (ns.map V.int)) := fun o => HP.lst hc
    have S0 : ∀ o, SqL K (upd H p o) c (ns.map V.int) := fun o => .inl (.inl (S1 o))
    refine ⟨fun σ H' => ∃ (i' d' f' : Int) (v : Option V), σ = [some (.ref p), some (.int many), v, none, none] ∧ H' = upd H p (.dK (penD c i' d' ((n : Int) + 1) f')) ∧ 0 ≤ i' ∧ 0 ≤ d' ∧ 0 ≤ f' ∧ f' < 2147483587, ?_, ?_⟩
    · -- the digits are used up?
      refine ⟨_, rfl, p, _, rfl, g_digits upd_same, rfl, _, rfl, ?_⟩
      refine ite2 (fun _ => ?_) (fun _ => ⟨i, d, f, none, rfl, rfl, hi, hd, hf0, hf1⟩)
      refine ⟨_, rfl, p, _, rfl, g_at upd_same, _, rfl, p, _, rfl, g_cells upd_same, c, _, rfl, .inl (S0 _), _, _, rfl, rfl, _, rfl, ?_⟩
      refine ite2 (fun hlt => ?_) (fun _ => ⟨i, d, f, none, rfl, rfl, hi, hd, hf0, hf1⟩)
      have hlt := of_decide_eq_true hlt
      rw [List.length_map] at hlt
      obtain ⟨z, hz⟩ : ∃ z, (ns.map V.int)[i.toNat]? = some (V.int z) := by
        refine ⟨ns[i.toNat]'(by omega), ?_⟩
        rw [List.getElem?_map, List.getElem?_eq_getElem (by omega)]
        rfl
      have hat : atI (ns.map V.int) i = some (V.int z) := by
        have e : i = ((i.toNat : Nat) : Int) := by omega
        rw [e]
        exact atI_nat hz
      refine ⟨_, rfl, p, _, rfl, g_cells upd_same, _, rfl, p, _, rfl, g_at upd_same, c, _, _, _, rfl, rfl, S0 _, hat, ?_⟩
      refine ⟨_, rfl, p, _, rfl, g_at upd_same, _, _, rfl, rfl, _, rfl, p, _, rfl, p_at, ?_⟩
      refine ⟨_, rfl, _, _, rfl, rfl, ⟨by decide, by decide, by decide⟩, _, _, rfl, rfl, _, rfl, ?_⟩
      refine ite2 (fun hge => ?_) (fun _ => ?_)
      · have hge := of_decide_eq_true hge
        refine ⟨_, rfl, _, _, rfl, rfl, ⟨by decide, by decide, by decide⟩, _, _, rfl, rfl, _, rfl, p, _, rfl, p_digits, ?_⟩
        exact ⟨_, _, f, _, rfl, rfl, by omega, Int.sub_nonneg.mpr hge, hf0, hf1⟩
      · refine ⟨_, rfl, p, _, rfl, g_fold upd_same, _, _, rfl, rfl, .inl ⟨by omega, by omega⟩, _, rfl, _, _, rfl, rfl, .inl ⟨_, rfl, _, _, rfl, rfl, (by show (0 : Int) < 2147483587; decide), _, rfl, p, _, rfl, p_fold, ?_⟩⟩
        exact ⟨_, _, _, _, rfl, rfl, by omega, hd, Int.emod_nonneg _ (by decide), Int.emod_lt_of_pos _ (by decide)⟩
    · rintro σ H' ⟨i', d', f', v, rfl, rfl, hi', hd', hf0', hf1'⟩
      have pen : ∀ d'', 0 ≤ d'' → PenAt (upd H p (.dK (penD c i' d'' ((n : Int) + 1) f'))) p c (m + 1) := fun d'' h0 => ⟨ns, i', d'', f', n + 1, upd_same, S1 _, hi', h0, by omega, hf0', hf1'⟩
      refine ⟨_, rfl, p, _, rfl, g_digits upd_same, _, _, rfl, rfl, _, rfl, ?_⟩
      refine ite2 (fun _ => ?_) (fun _ => ?_)
      · refine ⟨_, rfl, p, _, rfl, g_digits upd_same, .inl ⟨_, rfl, _, rfl, _, _, rfl, rfl, by omega, ?_⟩⟩
        refine ⟨_, rfl, p, _, rfl, g_digits upd_same, _, rfl, _, _, rfl, rfl, ⟨m0, m1⟩, _, rfl, p, _, rfl, p_digits, ?_⟩
        refine ⟨_, rfl, ?_⟩
        exact k _ _ (Int.fmod_nonneg_of_pos _ m0) (Int.fmod_lt_of_pos _ m0) (pen _ (Int.ediv_nonneg hd' (by omega)))
      · refine ⟨_, rfl, p, _, rfl, g_fold upd_same, _, rfl, p, _, rfl, g_count upd_same, _, _, rfl, rfl, .inl ⟨by omega, by omega⟩, _, _, rfl, rfl, _, _, rfl, rfl, ?_⟩
        refine ⟨_, rfl, _, _, rfl, rfl, ⟨by decide, by decide, by omega⟩, _, _, rfl, rfl, (by show (2305843009213693951 : Int) ≠ 0; decide), .inl ⟨_, rfl, _, _, rfl, rfl, ⟨by decide, by decide⟩, _, rfl, _, _, rfl, rfl, by omega, ?_⟩⟩
        exact k _ _ (Int.fmod_nonneg_of_pos _ m0) (Int.fmod_lt_of_pos _ m0) (pen _ hd')
theorem SqT_upd {H : Hp} {p c : Addr} {xs : List V} {kvs : List (Key × V)} {o : HO} (h : SqT K H c xs) (hp : H p = some (.dK kvs)) : SqT K (upd H p o) c xs := by
  rcases h with (h | ⟨u, h⟩) | h
  · refine .inl (.inl ?_)
    rw [upd_ne (ne_of h hp (by intro z; cases z))]
    exact h
  · refine .inl (.inr ⟨u, ?_⟩)
    rw [upd_ne (ne_of h hp (by intro z; cases z))]
    exact h
  · exact .inr h
theorem ok_pick (D : DefAt K mg "_law_pick" sPick) (T : Txt K mg) (CD : Cl P w K mg base 1 "_law_draw" (spDraw K)) : Cl P w K mg base 2 "_law_pick" (spPick K) := by
  refine cl_of D scPick (fun vs H Q E h => ?_) (fun _ _ _ _ _ _ us hl => match us, hl with | [_, _], _ => rfl) (fun f cdv A outer s H vs Q E hr h => ?_)
  · obtain ⟨p, c, m, u, xs, rfl, _⟩ := h
    rfl
  · obtain ⟨p, c, m, u, xs, rfl, HP, hS, hm, m0, m1, k⟩ := h
    refine ⟨_, pss_one (ps_ret (pe_ix ix_seq (pv 1) (pe_cl CD hr (Nat.le_refl _) rfl (pa_cons (pv 0) (pa_cons (pe_callB call_len (by rfl) (by exact T.len) PySem.boot_len (pa_cons (pv 1) pa_nil)) pa_nil))) (fun _ _ => rfl))), ?_⟩
    obtain ⟨kvs, hk⟩ := HP.dict
    have hln : LenV K u H xs.length := by
      cases hS with
      | lst h => exact .inl ⟨_, h, rfl⟩
      | tup h => exact .inr ⟨_, h, rfl⟩
      | str h => exact ⟨h, by rw [List.length_map]; exact (Array.length_toList).symm⟩
    refine ⟨_, rfl, _, rfl, _, rfl, _, _, rfl, hln, ?_⟩
    refine ⟨p, c, m, _, rfl, HP, hm, by omega, ?_, fun v o v0 v1 HP' => ?_⟩
    · have h2 : (xs.length : Int).natAbs.log2 < 30 := PySem.Flt.log2_lt_of (by decide) (by omega)
      omega
    obtain ⟨y, hv⟩ : ∃ y, xs[v.toNat]? = some y := ⟨xs[v.toNat]'(by omega), List.getElem?_eq_getElem (by omega)⟩
    have e : v = ((v.toNat : Nat) : Int) := by omega
    have hq := k v.toNat y o hv HP'
    cases hS with
    | lst h => exact .inl ⟨_, xs, v, y, rfl, rfl, SqL_upd h hk, by rw [e]; exact atI_nat hv, hq⟩
    | tup h => exact .inr (.inl ⟨_, xs, v, y, rfl, rfl, SqT_upd h hk, by rw [e]; exact atI_nat hv, hq⟩)
    | @str z h =>
      rw [List.getElem?_map] at hv
      cases ec : z.cps.toList[v.toNat]? with
      | none => rw [ec] at hv; cases hv
      | some cc =>
        rw [ec] at hv
        obtain rfl := Option.some.inj hv
        exact .inr (.inr ⟨z, v, cc, rfl, rfl, h, by rw [e]; exact atI_nat ec, hq⟩)
end
end Wq
set_option Elab.async false
set_option linter.all false
set_option maxRecDepth 100000
set_option maxHeartbeats 4000000
namespace Wq
open PySem PySem.Spec PyProof.Rows L2
theorem hu64 {A : Around} {k : Nat} (hr : Room k A) : A.units + 64 < cLine := by
  have := hr.un
  omega
abbrev NTold : List Str := ["_law_value", "_law_is_string", "_law_signs", "_law_known", "_law_word", "_law_small", "_law_due", "_law_sign"]
theorem sNew {H : Hp} {q : Addr} {o : HO} (h : H q = none) : Same H (upd H q o) := fun b u e => by rw [upd_ne (ne_of_none e h)]; exact e
theorem sPut {H G : Hp} {q : Addr} {o : HO} (s : Same H G) (h : H q = none) : Same H (upd G q o) := fun b u e => by rw [upd_ne (ne_of_none e h)]; exact s b u e
def SameP (p : Addr) (H H' : Hp) : Prop := ∀ b o, H b = some o → b ≠ p → H' b = some o
theorem SameP.refl {p : Addr} {H : Hp} : SameP p H H := fun _ _ e _ => e
theorem SameP.trans {p : Addr} {H H1 H2 : Hp} (a : SameP p H H1) (b : SameP p H1 H2) : SameP p H H2 := fun x o e n => b x o (a x o e n) n
theorem SameP.of {p : Addr} {H H' : Hp} (s : Same H H') : SameP p H H' := fun b o e _ => s b o e
theorem SameP.upd {p : Addr} {H : Hp} {o : HO} : SameP p H (L2.upd H p o) := fun b u e n => by rw [upd_ne n]; exact e
theorem SameP.new {p q : Addr} {H : Hp} {o : HO} (h : H q = none) : SameP p H (L2.upd H q o) := fun b u e n => by rw [upd_ne (ne_of_none e h)]; exact e
theorem textFrom_up {B : Nat} : ∀ (ts : List Str) (k : Nat) (acc : Str), (∀ t ∈ ts, t.length ≤ B) → (textFrom k acc ts).length ≤ acc.length + ts.length * (B + 2)
  | [], k, acc, _ => by
    show acc.length ≤ acc.length + 0 * (B + 2)
    omega
  | t :: r, k, acc, h => by
    have e : (acc ++ (if k > 0 then ", " else "" : String) ++ t).length = acc.length + (if k > 0 then 2 else 0) + t.length := by
      rw [strLen_append, strLen_append]
      split <;> rfl
    have i : (if k > 0 then 2 else 0 : Nat) ≤ 2 := by split <;> omega
    have h1 := textFrom_up r (k + 1) (acc ++ (if k > 0 then ", " else "" : String) ++ t) fun u hu => h u (List.mem_cons_of_mem _ hu)
    have h2 := h t List.mem_cons_self
    rw [e] at h1
    show (textFrom (k + 1) _ r).length ≤ acc.length + (r.length + 1) * (B + 2)
    have e3 : (r.length + 1) * (B + 2) = r.length * (B + 2) + (B + 2) := Nat.succ_mul _ _
    omega
theorem listText_up {B : Nat} {ts : List Str} (h : ∀ t ∈ ts, t.length ≤ B) : (listText ts).length ≤ 2 + ts.length * (B + 2) := by
  have e := textFrom_up ts 0 ("[" : Str) h
  unfold listText
  rw [strLen_append]
  have e1 : ("[" : Str).length = 1 := rfl
  have e2 : ("]" : Str).length = 1 := rfl
  rw [e1] at e
  rw [e2]
  omega
section
variable {X : Cx} {e : Expr} {t t' : TE}
theorem pe_imp (h : PE X e t) (i : ∀ σ H Q, t' σ H Q → t σ H Q) : PE X e t' := ⟨fun pins s σ H Q I q => h.run pins s σ H Q I (i σ H Q q)⟩
end
section
variable {X : Cx} {k j : Nat} {x : Str} {sp : Sp} {p pos : Pos}
theorem pe_cl0 (c : Cl X.prog X.w X.K X.mg X.base k x sp) (hr : Room j X.A) (hk : k ≤ j) (hg : Gl X x) (hdb : (x == ("__debug__" : Str)) = false := by decide) : PE X (.Call (.Name x p) [] [] pos) (tCall sp [] E0 tNil) := by
  obtain ⟨f, fd, ps, F, hm, kp, b⟩ := c.ex
  exact pe_call0 F (hr.mono hk) hg hm kp b .nil pass0 hdb
end
end Wq
set_option Elab.async false
set_option linter.all false
set_option maxRecDepth 100000
set_option maxHeartbeats 4000000
namespace Wq
open PySem PySem.Spec PyProof.Rows L2
/-- what a layout is -/
structure Ly where
  fr : Bool
  B : Nat
  E : Nat
  X : Nat
  H : Nat
structure Ly.Ok (y : Ly) : Prop where
  b1 : 1 ≤ y.B
  b16 : y.B ≤ 16
  e : y.E ≤ 4
  x : y.X ≤ 24
  h : y.H ≤ 64
abbrev nI (n : Nat) : V := .int (n : Int)
def lf (y : Ly) (tx : Str) : List (Str × V) := [("is_free", .bl y.fr), ("block", nI y.B), ("exceptions", nI y.E), ("wide", nI y.X), ("head", nI y.H), ("text", .str tx)]
def LyAt (C : Addr) (H : Hp) (a : Addr) (y : Ly) : Prop := ∃ dx tx, H a = some (.ins C dx (lf y tx))
theorem LyAt.same {C : Addr} {H H' : Hp} {a : Addr} {y : Ly} (h : LyAt C H a y) (s : Same H H') : LyAt C H' a y := by
  obtain ⟨dx, tx, e⟩ := h
  exact ⟨dx, tx, s _ _ e⟩
structure TxtL (K : PySem.W.Frag) (mg : Str → Option Value) (C : Addr) : Prop where
  cl : Cls K C
  nF : NoAttr K C "is_free"
  nB : NoAttr K C "block"
  nE : NoAttr K C "exceptions"
  nX : NoAttr K C "wide"
  nH : NoAttr K C "head"
  nT : NoAttr K C "text"
  gC : mg "Layout" = some (.ref C)
  isi : mg "isinstance" = none
  str : mg "str" = none
  max : mg "max" = none
  sorted : mg "sorted" = none
  repr : mg "repr" = none
/-! weights -/
def atZ (ws : List Int) (x : Nat) : Int := ws.getD x 0
def wOf (y : Ly) (ws : List Int) (x : Nat) : Int := (ws.length : Int) * atZ ws x + (x : Int) * y.X + y.H
def wS (y : Ly) (ws : List Int) (b : Option (Int × Nat)) (x : Nat) : Option (Int × Nat) :=
  if x = 0 ∨ atZ ws 0 ≤ y.X then
    match b with
    | none => some (wOf y ws x, x)
    | some p => if wOf y ws x < p.1 then some (wOf y ws x, x) else some p
  else b
def wB (y : Ly) (ws : List Int) (k : Nat) : Option (Int × Nat) := (List.range k).foldl (wS y ws) none
theorem wB_succ (y : Ly) (ws : List Int) (k : Nat) : wB y ws (k + 1) = wS y ws (wB y ws k) k := by
  unfold wB
  rw [List.range_succ, List.foldl_append]
  rfl
theorem wB_some (y : Ly) (ws : List Int) (k : Nat) : (wB y ws (k + 1)).isSome = true := by
  induction k with
  | zero => rw [wB_succ]; rfl
  | succ k ih =>
    rw [wB_succ]
    unfold wS
    split
    · split
      · rfl
      · split <;> rfl
    · exact ih
def mE (y : Ly) (n : Nat) : Nat := min y.E n + 1
/-- weight, exceptions, width -/
def Wt (y : Ly) (ws : List Int) : Int × Nat × Int :=
  match wB y ws (mE y ws.length) with
  | none => (0, 0, 0)
  | some p => (p.1, p.2, atZ ws p.2)
/-- widths in falling order -/
def desc (ws : List Int) : List Int := ws.mergeSort fun a b => decide (b ≤ a)
theorem desc_of {ns ws : List Int} (h1 : ns.Perm ws) (h2 : ns.Pairwise (· ≥ ·)) : ns = desc ws := by
  refine List.Perm.eq_of_pairwise (le := fun a b => a ≥ b) (fun a b _ _ h1 h2 => by omega) h2 ?_ (h1.trans (List.mergeSort_perm ws _).symm)
  have p := List.pairwise_mergeSort (le := fun a b : Int => decide (b ≤ a)) (fun a b c h1 h2 => by simp only [decide_eq_true_eq] at *; omega) (fun a b => by simp only [Bool.or_eq_true, decide_eq_true_eq]; omega) ws
  exact p.imp fun h => by simpa using h
theorem desc_len (ws : List Int) : (desc ws).length = ws.length := List.length_mergeSort ws
theorem desc_mem {ws : List Int} {w : Int} (h : w ∈ desc ws) : w ∈ ws := (List.mergeSort_perm ws _).mem_iff.mp h
def Wd (ws : List Int) : Prop := ∀ w ∈ ws, 0 ≤ w ∧ w ≤ 64
theorem Wd.at {ws : List Int} (h : Wd ws) (x : Nat) : 0 ≤ atZ ws x ∧ atZ ws x ≤ 64 := by
  unfold atZ
  by_cases hx : x < ws.length
  · have e : ws.getD x 0 = ws[x] := by simp [List.getD, hx]
    rw [e]
    exact h _ (List.getElem_mem hx)
  · have e : ws.getD x 0 = 0 := by simp [List.getD, hx]
    rw [e]
    exact ⟨by decide, by decide⟩
/-- the tuple of a best -/
def bT (ws : List Int) : Option (Int × Nat) → List V
  | none => []
  | some p => [.int p.1, nI p.2, .int (atZ ws p.2)]
def isB (b : Option (Int × Nat)) (z : Int) : Bool :=
  match b with
  | none => true
  | some p => decide (z < p.1)
theorem wS_yes {y : Ly} {ws : List Int} {b : Option (Int × Nat)} {x : Nat} (h : x = 0 ∨ atZ ws 0 ≤ y.X) : wS y ws b x = if isB b (wOf y ws x) = true then some (wOf y ws x, x) else b := by
  unfold wS isB
  rw [if_pos h]
  cases b with
  | none => rfl
  | some p => simp only [decide_eq_true_eq]
theorem wS_no {y : Ly} {ws : List Int} {b : Option (Int × Nat)} {x : Nat} (h : ¬ (x = 0 ∨ atZ ws 0 ≤ y.X)) : wS y ws b x = b := by
  unfold wS
  rw [if_neg h]
abbrev sWW : Stmt := top 20
abbrev NWW : List Str := ["layout", "many", "widths", "best", "excepted", "width", "weight"]
theorem scWW : FnScope NWW ["layout", "many", "widths"] (defScope sWW) := ⟨rfl, rfl, rfl, by decide +kernel, rfl, by decide +kernel, by decide +kernel⟩
def spWW (K : PySem.W.Frag) (C : Addr) : Sp := fun vs H Q _ => ∃ (a l : Addr) (y : Ly) (ws : List Int), vs = [.ref a, nI ws.length, .ref l] ∧ LyAt C H a y ∧ y.Ok ∧ SqL K H l (ws.map V.int) ∧ Wd ws ∧ ws.length ≤ 2000 ∧ 0 < ws.length ∧
  ∀ p H', Same H H' → H' p = some (.tup [.int (Wt y ws).1, nI (Wt y ws).2.1, .int (Wt y ws).2.2]) → Q (.ref p) H'
theorem SqL_same {K : PySem.W.Frag} {H H' : Hp} {a : Addr} {xs : List V} (h : SqL K H a xs) (s : Same H H') : SqL K H' a xs := by
  rcases h with (h | ⟨o, h⟩) | h
  · exact .inl (.inl (s _ _ h))
  · exact .inl (.inr ⟨o, s _ _ h⟩)
  · exact .inr h
theorem at_at {ws : List Int} {x : Nat} (h : x < ws.length) : atI (ws.map V.int) (x : Int) = some (.int (atZ ws x)) := by
  unfold atZ
  have e : ws.getD x 0 = ws[x] := by simp [List.getD, h]
  rw [e]
  exact atI_nat (by simp [h])
section
variable {X : Cx} {e : Expr} {t t' : TT}
theorem pt_imp (h : PT X e t) (i : ∀ σ H Q, t' σ H Q → t σ H Q) : PT X e t' := ⟨fun pins s σ H Q I q => h.run pins s σ H Q I (i σ H Q q)⟩
end
section
variable {P : Program} {w : World} {K : PySem.W.Frag} {mg : Str → Option Value} {base : Heap} {C : Addr}
theorem ok_WW (D : DefAt K mg "weight_of_widths" sWW) (T : Txt K mg) (TL : TxtL K mg C) : Cl P w K mg base 1 "weight_of_widths" (spWW K C) := by
  refine cl_of D scWW (fun vs H Q E h => ?_) (fun _ _ _ _ _ _ us hl => match us, hl with | [_, _, _], _ => rfl) (fun f cdv A1 outer s H vs Q E hr h => ?_)
  · obtain ⟨a, l, y, ws, rfl, _⟩ := h
    rfl
  · obtain ⟨a, l, y, ws, rfl, hy, ok, hl, hw, hn, h0, k⟩ := h
    refine ⟨_, pss_cons (ps_set (i := 3) scWW.nd rfl (Or.inl rfl) (pe_tup pa_nil))
(C8.pss_cut (ps_for PassesOwn.never rfl (pi_range1 rfl (by exact T.range) (pa_cons (pe_op op_add (pe_callB (call_min2 rfl) (by rfl) (by exact T.min) (by decide +kernel) (pa_cons (pe_fld (pv 0) rfl) (pa_cons (pv 1) pa_nil))) pe_int) pa_nil)) (pg_name (i := 4) scWW.nd rfl (Or.inl rfl))
(pss_one (ps_if (pt_imp (t' := fun σ G Q => ∃ (x : Nat) (q : Addr) (x5 x6 : Option V), σ = [some (.ref a), some (nI ws.length), some (.ref l), some (.ref q), some (.int (0 + (x : Int))), x5, x6] ∧ Same H G ∧ Q (decide (x = 0 ∨ atZ ws 0 ≤ y.X)) G) (PW.pt (pw_or (pt_cmpR op_eq (pv 4) pe_int (nomark _)) (pw_or1 (pt_cmpR op_le (pe_ix ix_list (pv 2) pe_int (fun _ _ => rfl)) (pe_fld (pv 0) rfl) (nomark _))))) (by
      rintro σ G Q ⟨x, q, x5, x6, rfl, sm, kq⟩
      obtain ⟨dx, tx, hd⟩ := hy.same sm
      refine ⟨_, rfl, rfl, _, rfl, ?_⟩
      refine ite2 (fun hx => ?_) (fun hx => ?_)
      · have hx : x = 0 := by have := V.int.inj (of_decide_eq_true hx); omega
        rw [decide_eq_true (.inl hx)] at kq
        exact kq
      · have hx : ¬ x = 0 := fun z => hx (decide_eq_true (by rw [z]; rfl))
        refine ⟨_, rfl, l, _, 0, _, rfl, rfl, SqL_same hl sm, at_at (x := 0) h0, _, rfl, a, C, dx, _, nI y.X, rfl, hd, TL.cl, TL.nX, rfl, _, _, rfl, rfl, _, rfl, ?_⟩
        have e : decide (x = 0 ∨ atZ ws 0 ≤ (y.X : Int)) = decide (atZ ws 0 ≤ (y.X : Int)) := decide_eq_decide.mpr ⟨fun z => z.resolve_left hx, .inr⟩
        rw [e] at kq
        exact kq))
(pss_cons (ps_set (i := 5) scWW.nd rfl (Or.inl rfl) (pe_imp (t' := fun σ G Q => ∃ (x : Nat) (q : Addr) (x5 x6 : Option V), σ = [some (.ref a), some (nI ws.length), some (.ref l), some (.ref q), some (.int (0 + (x : Int))), x5, x6] ∧ Same H G ∧ Q (.int (atZ ws x)) G) (pe_ifExp (pt_cmpR op_lt (pv 4) (pv 1) (nomark _)) (pe_ix ix_list (pv 2) (pv 4) (fun _ _ => rfl)) pe_int) (by
      rintro σ G Q ⟨x, q, x5, x6, rfl, sm, kq⟩
      refine ⟨_, rfl, _, rfl, _, _, rfl, rfl, _, rfl, ?_⟩
      refine ite2 (fun hx => ?_) (fun hx => ?_)
      · have hx : x < ws.length := by have := of_decide_eq_true hx; omega
        refine ⟨_, rfl, _, rfl, l, _, _, _, rfl, rfl, SqL_same hl sm, ?_, kq⟩
        rw [Int.zero_add]
        exact at_at hx
      · have hx : ¬ x < ws.length := fun z => hx (decide_eq_true (by omega))
        have e : atZ ws x = 0 := by simp [atZ, List.getD, hx]
        rw [e] at kq
        exact kq)))
(pss_cons (ps_set (i := 6) scWW.nd rfl (Or.inl rfl) (pe_op op_add (pe_op op_add (pe_op op_mul (pv 1) (pv 5)) (pe_op op_mul (pv 4) (pe_fld (pv 0) rfl))) (pe_fld (pv 0) rfl)))
(pss_one (ps_if (pt_imp (t' := fun σ G Q => ∃ (b : Option (Int × Nat)) (q : Addr) (z : Int) (x4 x5 : Option V), σ = [some (.ref a), some (nI ws.length), some (.ref l), some (.ref q), x4, x5, some (.int z)] ∧ G q = some (.tup (bT ws b)) ∧ ∀ G', Same G G' → Q (isB b z) G') (PW.pt (pw_or (pt_cmpR (op_eqD (hu64 hr)) (pv 3) (pe_tup pa_nil) (nomark _)) (pw_or1 (pt_cmpR op_lt (pv 6) (pe_ix ix_tup (pv 3) pe_int (fun _ _ => rfl)) (nomark _))))) (by
      rintro σ G Q ⟨b, q, z, x4, x5, rfl, hq, kq⟩
      refine ⟨_, rfl, by show 0 ≤ sizeLine; decide, fun o ho => ?_⟩
      have s1 := sNew (o := .tup []) ho
      cases b with
      | none =>
        refine ⟨.tuple [], .tuple [], .tup (.inl (.inl (s1 _ _ hq))) .nil, .tup (.inl (.inl upd_same)) .nil, by rfl, by rfl, true, by rfl, ?_⟩
        exact kq _ s1
      | some p =>
        refine ⟨.tuple [.int p.1, .int p.2, .int (atZ ws p.2)], .tuple [], .tup (.inl (.inl (s1 _ _ hq))) (.cons (.int _) (.cons (.int _) (.cons (.int _) .nil))), .tup (.inl (.inl upd_same)) .nil, ?_, by rfl, false, by rfl, ?_⟩
        · rfl
        · refine (if_neg (by decide)).mpr ?_
          refine ⟨_, rfl, _, rfl, q, _, 0, _, rfl, rfl, .inl (.inl (s1 _ _ hq)), by rfl, _, _, rfl, rfl, _, rfl, ?_⟩
          exact kq _ s1))
(pss_one (ps_set (i := 3) scWW.nd rfl (Or.inl rfl) (pe_tup (pa_cons (pv 6) (pa_cons (pv 4) (pa_cons (pv 5) pa_nil))))))
pss_nil))))
pss_nil)))
(pss_one (ps_ret (pv 3)))), ?_⟩
    refine ⟨by show 0 ≤ sizeLine; decide, fun q0 hq0 => ?_⟩
    have s0 := sNew (o := .tup []) hq0
    refine ⟨fun σ G => ∃ (q : Addr) (x4 x5 x6 : Option V), σ = [some (.ref a), some (nI ws.length), some (.ref l), some (.ref q), x4, x5, x6] ∧ Same H G ∧ G q = some (.tup (bT ws (wB y ws (mE y ws.length)))), ?_, ?_⟩
    · obtain ⟨dx, tx, hd⟩ := hy.same s0
      have hm : (if (ws.length : Int) < (y.E : Int) then (ws.length : Int) else (y.E : Int)) + 1 = ((mE y ws.length : Nat) : Int) := by
        unfold mE
        split <;> omega
      have hm9 : mE y ws.length ≤ 5 := by have := ok.e; unfold mE; omega
      refine ⟨_, rfl, a, C, dx, _, nI y.E, rfl, hd, TL.cl, TL.nE, rfl, _, rfl, _, _, rfl, _, _, rfl, rfl, ((mE y ws.length : Nat) : Int), congrArg (fun z => [V.int z]) hm, by omega, by omega, ?_⟩
      refine for_range (lo := 0) (n := (((mE y ws.length : Nat) : Int)).toNat) (fun i σ G => ∃ (q : Addr) (x4 x5 x6 : Option V), σ = [some (.ref a), some (nI ws.length), some (.ref l), some (.ref q), x4, x5, x6] ∧ Same H G ∧ G q = some (.tup (bT ws (wB y ws i))))
        ⟨q0, _, _, _, rfl, s0, upd_same⟩ ?_ ?_
      · rintro i σ G hi ⟨q, x4, x5, x6, rfl, sm, hq⟩
        rw [wB_succ]
        refine ⟨i, q, x5, x6, rfl, sm, ?_⟩
        refine ite2 (fun hc => ?_) (fun hc => ?_)
        · have hc := of_decide_eq_true hc
          rw [wS_yes hc]
          obtain ⟨dx, tx, hd⟩ := hy.same sm
          have hwi := hw.at i
          refine ⟨i, q, x5, x6, rfl, sm, ?_⟩
          refine ⟨_, rfl, _, rfl, _, _, rfl, rfl, .inl ⟨by omega, by omega⟩, _, rfl, _, rfl, a, C, dx, _, nI y.X, rfl, hd, TL.cl, TL.nX, rfl, _, _, rfl, rfl, .inl ⟨by have := ok.e; omega, by have := ok.x; omega⟩, _, _, rfl, rfl, _, rfl, a, C, dx, _, nI y.H, rfl, hd, TL.cl, TL.nH, rfl, _, _, rfl, rfl, ?_⟩
          refine ⟨wB y ws i, q, wOf y ws i, _, _, by rw [Int.zero_add]; rfl, hq, fun G' s' => ?_⟩
          refine ite2 (fun hb => ?_) (fun hb => ?_)
          · rw [if_pos hb]
            refine ⟨_, rfl, _, rfl, _, rfl, by show 3 ≤ sizeLine; decide, fun p hp => ?_⟩
            refine ⟨p, _, _, _, rfl, sm.trans (s'.trans (sNew hp)), ?_⟩
            have e1 : (ws.length : Int) * atZ ws i + (0 + (i : Int)) * (y.X : Int) + (y.H : Int) = wOf y ws i := by rw [Int.zero_add]; rfl
            have e2 : 0 + (i : Int) = (i : Int) := Int.zero_add _
            rw [upd_same]
            show some (HO.tup [V.int ((ws.length : Int) * atZ ws i + (0 + (i : Int)) * (y.X : Int) + (y.H : Int)), V.int (0 + (i : Int)), V.int (atZ ws i)]) = _
            rw [e1, e2]
            rfl
          · rw [if_neg hb]
            exact ⟨q, _, _, _, rfl, sm.trans s', s' _ _ hq⟩
        · have hc := fun z => hc (decide_eq_true z)
          rw [wS_no hc]
          exact ⟨q, _, _, _, rfl, sm, hq⟩
      · rintro σ G ⟨q, x4, x5, x6, rfl, sm, hq⟩
        exact ⟨q, _, _, _, rfl, sm, hq⟩
    · rintro σ G ⟨q, x4, x5, x6, rfl, sm, hq⟩
      refine ⟨_, rfl, k q G sm ?_⟩
      rw [hq]
      unfold Wt
      obtain ⟨p, hp⟩ := Option.isSome_iff_exists.mp (wB_some y ws (min y.E ws.length))
      have hp : wB y ws (mE y ws.length) = some p := hp
      rw [hp]
      rfl
end
end Wq
set_option Elab.async false
set_option linter.all false
set_option maxRecDepth 100000
set_option maxHeartbeats 4000000
namespace Wq
open PySem PySem.Spec PyProof.Rows L2
theorem pss_pre {X : Cx} {b : List Stmt} {t t' : TS} (h : PSs X b t) (i : ∀ D σ H, t' D σ H → t D σ H) : PSs X b t' := ⟨fun pins s σ H D I q => h.run pins s σ H D I (i D σ H q)⟩
/-- what is never reached -/
def tNever : TS := fun _ _ _ => False
theorem pss_never {X : Cx} {b : List Stmt} : PSs X b tNever := ⟨fun _ _ _ _ _ _ q => q.elim⟩
theorem ps_never {X : Cx} {b : Stmt} : PS X b tNever := ⟨fun _ _ _ _ _ _ q => q.elim⟩
/-- callables with promises that let errors out -/
structure Cle (P : Program) (w : World) (K : PySem.W.Frag) (mg : Str → Option Value) (base : Heap) (k : Nat) (x : Str) (sp : Sp) : Prop where
  ex : ∃ (f : Addr) (fd : FuncData) (ps : List Str), FnOk P w K mg base (L2.CX P w) k f fd ps sp ∧ mg x = some (.ref f) ∧ PySem.W.keepIn K (.ref f) = true ∧ Binds K fd ps []
/-! methods -/
structure MAt (K : PySem.W.Frag) (C : Addr) (m qual : Str) (st : Stmt) : Prop where
  ex : ∃ (f : Addr) (fd : FuncData), Fun K m qual st f fd ∧ Meth K C m f
theorem m_mk {K : PySem.W.Frag} {C : Addr} {m qual : Str} {st : Stmt} {f : Addr} {oc : Value} {od an : Option Addr} {osl : Array (Option Value)} {kV doc pm cdv ct : Value}
    (a : PySem.W.findIn K (.ref C) m = some (some (.ref f))) (i : PySem.W.isFn K (.ref f) = true) (l : K.lookup f = some ⟨oc, od, .func (PySem.W.fnOf m qual (defArgs st) (defBody st) (defScope st) .none kV doc pm an cdv ct), osl⟩)
    (c : PySem.W.codeIn K cdv qual = true) (k : PySem.W.keepIn K (.ref f) = true) : MAt K C m qual st := ⟨f, _, fun_mk l c k, ⟨a, i, k⟩⟩
/-- the method m of the class at C -/
def MthX (P : Program) (w : World) (K : PySem.W.Frag) (mg : Str → Option Value) (base : Heap) (CX : CXT) (C : Addr) (m : Str) (k : Nat) (ps : List Str) (sp : Sp) : Prop :=
  ∃ f fd, Meth K C m f ∧ FnOk P w K mg base CX k f fd ps sp ∧ Binds K fd ps []
/-! errors with two fields -/
structure TxtE (K : PySem.W.Frag) (mg : Str → Option Value) (CE fI : Addr) (x f1 f2 : Str) : Prop where
  ox : OexC K CE
  n1 : PySem.W.findIn K (.ref CE) f1 = some none
  n2 : PySem.W.findIn K (.ref CE) f2 = some none
  iC : PySem.W.findIn K (.ref CE) "__init__" = some (some (.ref fI))
  tI : PySem.W.typeIn K (.ref fI) = some (.type "function")
  gC : mg x = some (.ref CE)
  xf : XfC K CE
  te : PySem.W.exmOne K (.ref CE) (.ref CE) = some true
def spE2 (CE : Addr) (f1 f2 : Str) : Sp := fun vs H Q _ => ∃ (a : Addr) (v1 v2 : V), vs = [.ref a, v1, v2] ∧ H a = some (exo a CE none) ∧ ∀ d, H d = none → d ≠ a → Q .non (upd (upd (upd H d (exd d [(f1, v1)])) a (exo a CE (some d))) d (exd d [(f2, v2), (f1, v1)]))
/-- an error is out: its fields -/
def Err2 (H H' : Hp) (d : Addr) (fs : List (Str × V)) : Prop := Same H H' ∧ H d = none ∧ H' d = some (.xd fs)
theorem err2_heap {H : Hp} {a d CE : Addr} {f1 f2 : Str} {v1 v2 : V} (ha : H a = none) (hd : (upd H a (exo a CE none)) d = none) (hda : d ≠ a) :
    Err2 H (upd (del (upd (upd (upd (upd H a (exo a CE none)) d (exd d [(f1, v1)])) a (exo a CE (some d))) d (exd d [(f2, v2), (f1, v1)])) a) d (.xd [(f2, v2), (f1, v1)])) d [(f2, v2), (f1, v1)] := by
  have hd' : H d = none := by rw [upd_ne hda] at hd; exact hd
  refine ⟨fun b o e => ?_, hd', upd_same⟩
  have hba : b ≠ a := ne_of_none e ha
  have hbd : b ≠ d := ne_of_none e hd'
  rw [upd_ne hbd, del_ne hba, upd_ne hbd, upd_ne hba, upd_ne hbd, upd_ne hba]
  exact e
abbrev sTI : Stmt := inClass (top 2) 0
abbrev sNI : Stmt := inClass (top 3) 0
theorem scTI : FnScope ["self", "line", "column"] ["self", "line", "column"] (defScope sTI) := ⟨rfl, rfl, rfl, by decide +kernel, rfl, by decide +kernel, by decide +kernel⟩
theorem scNI : FnScope ["self", "what", "number"] ["self", "what", "number"] (defScope sNI) := ⟨rfl, rfl, rfl, by decide +kernel, rfl, by decide +kernel, by decide +kernel⟩
section
variable {P : Program} {w : World} {K : PySem.W.Frag} {mg : Str → Option Value} {base : Heap} {C CE fI : Addr}
theorem ok_TI {fd : FuncData} (F : Fun K "__init__" "BadText.__init__" sTI fI fd) (T : TxtE K mg CE fI "BadText" "line" "column") : FnOk P w K mg base CX0 1 fI fd ["self", "line", "column"] (spE2 CE "line" "column") := by
  refine F.ok scTI (fun vs H Q E h => ?_) (fun cdv A outer s H vs Q E hr h => ?_)
  · obtain ⟨a, v1, v2, rfl, _⟩ := h
    rfl
  · obtain ⟨a, v1, v2, rfl, ha, k⟩ := h
    refine ⟨_, pss_cons (ps_ost (pv 0) (pv 1)) (pss_one (ps_ost (pv 0) (pv 2))), _, rfl, _, rfl, a, CE, rfl, T.ox, T.n1, .inl ⟨ha, fun dx n ne => ?_⟩⟩
    exact ⟨_, rfl, _, rfl, a, CE, rfl, T.ox, T.n2, .inr ⟨dx, _, upd_same, by rw [upd_ne ne]; exact upd_same, by show 1 ≤ 900; decide, k dx n ne⟩⟩
theorem ok_NI {fd : FuncData} (F : Fun K "__init__" "BadNumber.__init__" sNI fI fd) (T : TxtE K mg CE fI "BadNumber" "what" "number") : FnOk P w K mg base CX0 1 fI fd ["self", "what", "number"] (spE2 CE "what" "number") := by
  refine F.ok scNI (fun vs H Q E h => ?_) (fun cdv A outer s H vs Q E hr h => ?_)
  · obtain ⟨a, v1, v2, rfl, _⟩ := h
    rfl
  · obtain ⟨a, v1, v2, rfl, ha, k⟩ := h
    refine ⟨_, pss_cons (ps_ost (pv 0) (pv 1)) (pss_one (ps_ost (pv 0) (pv 2))), _, rfl, _, rfl, a, CE, rfl, T.ox, T.n1, .inl ⟨ha, fun dx n ne => ?_⟩⟩
    exact ⟨_, rfl, _, rfl, a, CE, rfl, T.ox, T.n2, .inr ⟨dx, _, upd_same, by rw [upd_ne ne]; exact upd_same, by show 1 ≤ 900; decide, k dx n ne⟩⟩
end
section
variable {X : Cx} {CX : CXT} {k : Nat} {f C : Addr} {fd : FuncData} {ps : List Str} {sp : Sp} {E : L2.St → XK} {m : Str} {p pos apos : Pos} {e o : Expr} {es : List Expr} {ta : TE} {t : TA}
/-- a method called where what is let out knows the slots -/
def tMethV (C : Addr) (m : Str) (sp : Sp) (E : L2.St → XK) (ta : TE) (t : TA) : TE := fun σ H Q => ta σ H fun x H1 => ∃ a dx fs, x = .ref a ∧ H1 a = some (.ins C dx fs) ∧ fs.lookup m = none ∧
  t σ H1 fun vs H2 => sp (x :: vs) H2 Q (E σ)
theorem pe_methV {pl : Sem Bool} (he : PE X o ta) (c : Cls X.K C) (hm : Meth X.K C m f) (F : FnOk X.prog X.w X.K X.mg X.base CX k f fd ps sp) (hr : Room k X.A) (hb : Binds X.K fd ps []) (hx : ∀ σ, PassesAt CX X σ (E σ)) (ha : PA X (e :: es) t)
    (hst : starEach (e :: es) X.env = (false, eval e X.env) :: starEach es X.env := by rfl) (hpl : (backTo pos (starEach es X.env)).any (·.1) = false := by rfl)
    (ht : eval (.Call (.Attribute o m apos) (e :: es) [] pos) X.env = (do
      let ov ← eval o X.env
      standAt apos.atName
      let (f, first) ← holding [ov] (getMethod ov m pl)
      callWith pos f first (backTo pos (starEach (e :: es) X.env)) (backToKw pos (keywordEach [] X.env))) := by rfl) :
    PE X (.Call (.Attribute o m apos) (e :: es) [] pos) (tMethV C m sp E ta t) := by
  refine ⟨fun pins s σ H Q I h => ?_⟩
  refine PySem.W.methodCall_KW (pl := pl) (thn (he.run pins s σ H _ I h) fun u s1 z => ?_) ht
  obtain ⟨x, H1, I1, rx, a, dx, fs, ex, ea, l, q⟩ := z
  subst ex
  obtain rfl : u = Value.ref a := rx
  refine getmeth_ok I1 ea c hm l ?_
  refine PySem.W.callWith_K (first := [.ref a]) (h₀ := X.base) I.ok.mod.kin hm.kp (thn (ha.run pos pins s1 σ H1 _ I1 q) fun us s2 z2 => ?_) hst hpl
  obtain ⟨vs, H2, I2, r, q2⟩ := z2
  exact ⟨I2.kIn, run_fnS (us := .ref a :: us) (vs := .ref a :: vs) F hr hb (hx σ) I2 (.cons rfl r) q2⟩
end
/-- nothing is let out -/
def EF : XK := fun _ _ _ => False
theorem passF {X : Cx} : Passes (L2.CX X.prog X.w) X EF := passes_call takes0 (fun _ _ _ _ h => h)
theorem passFx {X : Cx} {W : WX} (tk : Takes X W) : Passes (L2.CX X.prog X.w) X EF := passes_call tk (fun _ _ _ _ h => h.elim)
/-! a row of things: a list or a tuple -/
def Sqx (K : PySem.W.Frag) (H : Hp) (l : Addr) (xs : List V) : Prop := SqL K H l xs ∨ SqT K H l xs
theorem SqT_same {K : PySem.W.Frag} {H H' : Hp} {a : Addr} {xs : List V} (h : SqT K H a xs) (s : Same H H') : SqT K H' a xs := by
  rcases h with (h | ⟨o, h⟩) | h
  · exact .inl (.inl (s _ _ h))
  · exact .inl (.inr ⟨o, s _ _ h⟩)
  · exact .inr h
theorem Sqx.same {K : PySem.W.Frag} {H H' : Hp} {a : Addr} {xs : List V} (h : Sqx K H a xs) (s : Same H H') : Sqx K H' a xs := h.imp (fun h => SqL_same h s) fun h => SqT_same h s
section
variable {X : Cx} {tg l e : Expr} {t1 t2 : TI} {u1 u2 : TE}
def iOr (t1 t2 : TI) : TI := fun σ H R => t1 σ H R ∨ t2 σ H R
theorem pi_alt (h1 : PI X tg l t1) (h2 : PI X tg l t2) : PI X tg l (iOr t1 t2) := ⟨fun pins s σ H R I q => q.elim (h1.run pins s σ H R I) (h2.run pins s σ H R I)⟩
def tEor (u1 u2 : TE) : TE := fun σ H Q => u1 σ H Q ∨ u2 σ H Q
theorem pe_alt (h1 : PE X e u1) (h2 : PE X e u2) : PE X e (tEor u1 u2) := ⟨fun pins s σ H Q I q => q.elim (h1.run pins s σ H Q I) (h2.run pins s σ H Q I)⟩
end
end Wq
set_option Elab.async false
set_option linter.all false
set_option maxRecDepth 100000
set_option maxHeartbeats 4000000
namespace Wq
open PySem PySem.Spec PyProof.Rows L2
/-- the width of a step -/
def wd (i : Int) : Int := (Builtin.Int.intBits i : Nat)
def St (ss : List Int) : Prop := ∀ s ∈ ss, 0 ≤ s ∧ s < 16777216
theorem wd_le {s : Int} (h0 : 0 ≤ s) (h : s < 16777216) : 0 ≤ wd s ∧ wd s ≤ 24 := by
  unfold wd Builtin.Int.intBits
  by_cases hs : s = 0
  · subst hs
    exact ⟨by decide, by decide⟩
  · have e : (s == 0) = false := by simpa using hs
    rw [e]
    have h1 : s.natAbs < 2 ^ 24 := by omega
    have h2 := (Nat.log2_lt (by omega : s.natAbs ≠ 0)).mpr h1
    simp only [Bool.false_eq_true, if_false]
    omega
theorem wd_Wd {ss : List Int} (h : St ss) : Wd (ss.map wd) := fun w hw => by
  obtain ⟨s, hs, rfl⟩ := List.mem_map.mp hw
  have := wd_le (h s hs).1 (h s hs).2
  omega
theorem Wd.desc {ws : List Int} (h : Wd ws) : Wd (Wq.desc ws) := fun w hw => h w (desc_mem hw)
/-- the weight of a block of steps -/
def Bw (y : Ly) (ss : List Int) : Int × Nat × Int := Wt y (desc (ss.map wd))
def tW (r : Int × Nat × Int) : HO := .tup [.int r.1, nI r.2.1, .int r.2.2]
abbrev sBW : Stmt := inClass (top 18) 2
abbrev NBW : List Str := ["self", "steps", "widths", "step"]
theorem scBW : FnScope NBW ["self", "steps"] (defScope sBW) := ⟨rfl, rfl, rfl, by decide +kernel, rfl, by decide +kernel, by decide +kernel⟩
def spBW (K : PySem.W.Frag) (C CE : Addr) : Sp := fun vs H Q E => ∃ (a l : Addr) (y : Ly) (ss : List Int), vs = [.ref a, .ref l] ∧ LyAt C H a y ∧ y.Ok ∧ Sqx K H l (ss.map V.int) ∧ St ss ∧ ss.length ≤ 2000 ∧
  (0 < ss.length → ss.length ≤ y.B → ∀ p H', Same H H' → H' p = some (tW (Bw y ss)) → Q (.ref p) H') ∧ (¬ (0 < ss.length ∧ ss.length ≤ y.B) → ∀ d H', Err2 H H' d [("number", nI ss.length), ("what", .str "steps")] → E (.ref CE) (some d) H')
theorem ints_atZ {ns : List Int} {i : Nat} {y : V} (hi : (ns.map V.int)[i]? = some y) : ∃ z, ns[i]? = some z ∧ y = V.int z := by
  rw [List.getElem?_map] at hi
  cases e : ns[i]? with
  | none => rw [e] at hi; cases hi
  | some z => rw [e] at hi; exact ⟨z, rfl, (Option.some.inj hi).symm⟩
section
variable {P : Program} {w : World} {K : PySem.W.Frag} {mg : Str → Option Value} {base : Heap} {C CE fI : Addr}
theorem ok_BW {f : Addr} {fd fdI : FuncData} (F : Fun K "block_weight" "Layout.block_weight" sBW f fd) (T : Txt K mg) (TL : TxtL K mg C) (TE : TxtE K mg CE fI "BadNumber" "what" "number") (GI : FnOk P w K mg base CX0 1 fI fdI ["self", "what", "number"] (spE2 CE "what" "number")) (bI : Binds K fdI ["self", "what", "number"] [])
    (CW : Cl P w K mg base 1 "weight_of_widths" (spWW K C)) : FnOk P w K mg base (L2.CX P w) 3 f fd ["self", "steps"] (spBW K C CE) := by
  refine F.okX scBW (fun vs H Q E h => ?_) (fun cdv A outer s H vs Q E hr h => ?_)
  · obtain ⟨a, l, y, ss, rfl, _⟩ := h
    rfl
  · obtain ⟨a, l, y, ss, rfl, hy, ok, hl, hs, hn, k1, k2⟩ := h
    refine ⟨_, pss_cons (ps_if (pt_imp (t' := fun σ G Q => σ = [some (.ref a), some (.ref l), none, none] ∧ G = H ∧ Q (!decide (0 < ss.length ∧ ss.length ≤ y.B)) G) (pt_not (pt_chain op_le op_le pe_int (pe_callB call_len_seq (by rfl) (by exact T.len) PySem.boot_len (pa_cons (pv 1) pa_nil)) (pe_fld (pv 0) rfl))) (by
      rintro σ G Q ⟨rfl, rfl, kq⟩
      obtain ⟨dx, tx, hd⟩ := id hy
      refine ⟨_, rfl, l, _, rfl, hl, 1, _, rfl, rfl, _, rfl, ?_⟩
      rw [List.length_map]
      refine ite2 (fun h1 => ?_) (fun h1 => ?_)
      · have h1 : 0 < ss.length := by have := of_decide_eq_true h1; omega
        refine ⟨_, rfl, a, C, dx, _, nI y.B, rfl, hd, TL.cl, TL.nB, rfl, _, _, rfl, rfl, _, rfl, ?_⟩
        have e : decide (0 < ss.length ∧ ss.length ≤ y.B) = decide ((ss.length : Int) ≤ (y.B : Int)) := decide_eq_decide.mpr ⟨fun z => by omega, fun z => ⟨h1, by omega⟩⟩
        rw [e] at kq
        exact kq
      · have h1 : ¬ 0 < ss.length := fun z => h1 (decide_eq_true (by omega))
        rw [decide_eq_false (fun z => h1 z.1)] at kq
        exact ⟨false, rfl, kq⟩))
(pss_one (ps_raise rfl (takes_of rfl rfl rfl rfl) (pmk_oex TE.ox TE.iC TE.tI GI (hr.mono (by decide)) bI .nil pass0 rfl (by exact TE.gC) (by exact (pa_cons pe_str (pa_cons (pe_callB call_len_seq (by rfl) (by exact T.len) PySem.boot_len (pa_cons (pv 1) pa_nil)) pa_nil))))))
pss_nil)
(pss_cons (ps_set (i := 2) scBW.nd rfl (Or.inl rfl) (pe_callBK (cr_sortedRev (b := true)) (by rfl) (by exact TL.sorted) (by decide +kernel) (pa_cons (pe_imp (t' := fun σ G Q => σ = [some (.ref a), some (.ref l), none, none] ∧ G = H ∧ ∀ D G', Same H G' → G' D = some (.lst ((ss.map wd).map V.int)) → Q (.ref D) G') (pe_lc (own := [("step", 3)]) (g := gName 3) (tt := tYes) (te := tBits (tVar 3)) (by rfl) scBW.nd (pi_alt (pi_list (pv 1)) (pi_tup (pv 1))) (blkOk_by (own := [("step", 3)]) (N := NBW) (sc := defScope sBW) (by decide +kernel)) (fun _ _ _ _ _ => (pg_name (i := 3) scBW.nd rfl (Or.inl rfl))) (fun _ _ _ _ _ => pts_nil) (fun _ _ _ _ _ => (pe_bits (pv 3)))) (by
      rintro σ H0 Q ⟨rfl, eH, kq⟩
      rw [eH]
      have step : ∀ (i : Nat) (z : Int) (G' : Hp) (D : Addr) (R : Hp → Prop), ss[i]? = some z → G' D = some (.lst (((ss.take i).map wd).map V.int)) → (∀ G2, G2 = upd G' D (.lst (((ss.take (i + 1)).map wd).map V.int)) → R G2) →
          ∃ acc, G' D = some (.lst acc) ∧ acc.length < sizeLine ∧ R (upd G' D (.lst (acc ++ [.int (wd z)]))) := fun i z G' D R hz hD kr => by
        have hi : i < ss.length := (List.getElem?_eq_some_iff.mp hz).1
        refine ⟨_, hD, by rw [List.length_map, List.length_map, List.length_take, sizeLine_eq]; omega, kr _ ?_⟩
        rw [List.take_succ, hz, List.map_append, List.map_append]
        rfl
      rcases hl with hl | hl
      · refine .inl ⟨_, rfl, l, rfl, ⟨_, hl⟩, fun D hD => ?_⟩
        refine lc_list (K := K) (a := l) (xs := ss.map V.int) (fun i G' => Same H G' ∧ G' D = some (.lst (((ss.take i).map wd).map V.int))) ⟨sNew hD, upd_same⟩ (fun i G' _ ⟨sm, _⟩ => SqL_same hl sm) ?_ ?_
        · rintro i y0 G' hi ⟨sm, hD2⟩
          obtain ⟨z, hz, rfl⟩ := ints_atZ hi
          refine ⟨rfl, ?_⟩
          simp only [tYes, if_true]
          refine ⟨_, rfl, z, rfl, step i z G' D (fun G2 => Same H G2 ∧ G2 D = some (.lst (((ss.take (i + 1)).map wd).map V.int))) hz hD2 fun G2 e => ?_⟩
          rw [e]
          exact ⟨sPut sm hD, upd_same⟩
        · rintro G' ⟨sm, hD2⟩
          rw [List.length_map, List.take_length] at hD2
          exact kq D G' sm hD2
      · refine .inr ⟨_, rfl, l, rfl, ⟨_, hl⟩, fun D hD => ?_⟩
        refine lc_tup (K := K) (a := l) (xs := ss.map V.int) (fun i G' => Same H G' ∧ G' D = some (.lst (((ss.take i).map wd).map V.int))) ⟨sNew hD, upd_same⟩ (fun i G' _ ⟨sm, _⟩ => SqT_same hl sm) ?_ ?_
        · rintro i y0 G' hi ⟨sm, hD2⟩
          obtain ⟨z, hz, rfl⟩ := ints_atZ hi
          refine ⟨rfl, ?_⟩
          simp only [tYes, if_true]
          refine ⟨_, rfl, z, rfl, step i z G' D (fun G2 => Same H G2 ∧ G2 D = some (.lst (((ss.take (i + 1)).map wd).map V.int))) hz hD2 fun G2 e => ?_⟩
          rw [e]
          exact ⟨sPut sm hD, upd_same⟩
        · rintro G' ⟨sm, hD2⟩
          rw [List.length_map, List.take_length] at hD2
          exact kq D G' sm hD2)) pa_nil) (pk_cons pe_bl pk_nil)))
(pss_one (ps_ret (pe_cl CW hr (by decide) rfl (pa_cons (pv 0) (pa_cons (pe_callB call_len_seq (by rfl) (by exact T.len) PySem.boot_len (pa_cons (pv 2) pa_nil)) (pa_cons (pv 2) pa_nil))))))), ?_⟩
    refine ⟨rfl, rfl, ?_⟩
    refine ite2 (fun hc => ?_) (fun hc => ?_)
    · have hc : ¬ (0 < ss.length ∧ ss.length ≤ y.B) := fun z => by rw [decide_eq_true z] at hc; cases hc
      refine ⟨_, rfl, l, _, rfl, hl, ?_⟩
      refine ⟨(by show 2 ≤ 1000; decide), fun p hp => ⟨p, _, _, rfl, upd_same, fun d hd hdp => ⟨rfl, d, _, by rw [upd_ne hdp.symm]; exact upd_same, upd_same, by rw [upd_ne hdp] at hd; exact hd, ?_⟩⟩⟩
      have e := err2_heap (f1 := "what") (f2 := "number") (v1 := .str "steps") (v2 := .int ((ss.map V.int).length : Int)) hp hd hdp
      rw [List.length_map] at e
      rw [List.length_map]
      exact k2 hc d _ e
    · have hc : 0 < ss.length ∧ ss.length ≤ y.B := Classical.byContradiction fun z => hc (by rw [decide_eq_false z]; rfl)
      refine ⟨rfl, rfl, fun D G sm hD => ?_⟩
      refine ⟨D, ss.map wd, rfl, rfl, .inl (.inl hD), fun ns p hp ho hn0 => ?_⟩
      have e : ns = desc (ss.map wd) := desc_of hp ho
      have e1 : ns.length = ss.length := by rw [hp.length_eq, List.length_map]
      have s2 := sm.trans (sNew (o := .lst (ns.map V.int)) hn0)
      refine ⟨_, rfl, _, rfl, p, _, rfl, .inl (.inl (.inl upd_same)), _, rfl, a, p, y, ns, ?_, hy.same s2, ok, .inl (.inl upd_same), by rw [e]; exact (wd_Wd hs).desc, by omega, by omega, fun r G' s3 hr3 => ?_⟩
      · rw [List.length_map]
        rfl
      · refine k1 hc.1 hc.2 r G' (s2.trans s3) ?_
        rw [hr3, e]
        rfl
end
end Wq
set_option Elab.async false
set_option linter.all false
set_option maxRecDepth 100000
set_option maxHeartbeats 4000000
namespace Wq
open PySem PySem.Spec PyProof.Rows L2
/-- the law's parts of a layout -/
def paV (y : Ly) (hd : Int) : List V := [.bl y.fr, nI y.B, nI y.E, nI y.X, .int hd]
def HdOk (y : Ly) (hd : Int) : Prop := (y.H : Int) = if hd < 0 then 8 else hd
abbrev sLh : Stmt := top 28
abbrev sLw : Stmt := top 29
abbrev sLW : Stmt := top 30
abbrev NLW : List Str := ["_law_parts_here", "_law_widths", "_law_falling", "_law_found", "_law_apart", "_law_wide", "_law_sum_here"]
theorem scLh : FnScope ["_law_parts_here"] ["_law_parts_here"] (defScope sLh) := ⟨rfl, rfl, rfl, by decide +kernel, rfl, by decide +kernel, by decide +kernel⟩
theorem scLw : FnScope ["_law_step"] ["_law_step"] (defScope sLw) := ⟨rfl, rfl, rfl, by decide +kernel, rfl, by decide +kernel, by decide +kernel⟩
theorem scLW : FnScope NLW ["_law_parts_here", "_law_widths"] (defScope sLW) := ⟨rfl, rfl, rfl, by decide +kernel, rfl, by decide +kernel, by decide +kernel⟩
def spLh (K : PySem.W.Frag) : Sp := fun vs H Q _ => ∃ (q : Addr) (y : Ly) (hd : Int), vs = [.ref q] ∧ SqL K H q (paV y hd) ∧ HdOk y hd ∧ Q (nI y.H) H
def spLw : Sp := fun vs H Q _ => ∃ s : Int, vs = [.int s] ∧ Q (.int (wd s)) H
def spLW (K : PySem.W.Frag) : Sp := fun vs H Q _ => ∃ (q l : Addr) (y : Ly) (hd : Int) (ws : List Int), vs = [.ref q, .ref l] ∧ SqL K H q (paV y hd) ∧ HdOk y hd ∧ y.Ok ∧ SqL K H l (ws.map V.int) ∧ Wd ws ∧ ws.length ≤ 2000 ∧ 0 < ws.length ∧
  ∀ p H', Same H H' → H' p = some (tW (Wt y (desc ws))) → Q (.ref p) H'
theorem desc_sorted (ws : List Int) : (desc ws).Pairwise (· ≥ ·) := by
  have p := List.pairwise_mergeSort (le := fun a b : Int => decide (b ≤ a)) (fun a b c h1 h2 => by simp only [decide_eq_true_eq] at *; omega) (fun a b => by simp only [Bool.or_eq_true, decide_eq_true_eq]; omega) ws
  exact p.imp fun h => by simpa using h
theorem cut_from {xs : List V} {k : Nat} : cutV xs (some (k : Int)) none = xs.drop k := by
  unfold cutV
  rw [HT.sIx_nat, HT.sIx_none]
  by_cases h : k ≤ xs.length
  · rw [Nat.min_eq_left h, List.take_of_length_le (by rw [List.length_drop]; omega)]
  · rw [Nat.min_eq_right (by omega), List.drop_eq_nil_of_le (by omega), List.drop_eq_nil_of_le (by omega), List.take_nil]
theorem cut_to {xs : List V} {k : Nat} : cutV xs none (some (k : Int)) = xs.take k := by
  unfold cutV
  rw [HT.sIx_nat, HT.sIx_none, List.drop_zero, Nat.sub_zero]
  by_cases h : k ≤ xs.length
  · rw [Nat.min_eq_left h]
  · rw [Nat.min_eq_right (by omega), List.take_of_length_le (Nat.le_refl _), List.take_of_length_le (by omega)]
theorem cut_mid {xs : List V} {b e : Nat} (h : b ≤ e) (he : e ≤ xs.length) : cutV xs (some (b : Int)) (some (e : Int)) = (xs.drop b).take (e - b) := by
  unfold cutV
  rw [HT.sIx_nat, HT.sIx_nat, Nat.min_eq_left (show b ≤ xs.length by omega), Nat.min_eq_left he]
/-- the greatest of a falling row from a place on, and 0 -/
theorem max_drop {ds : List Int} (hs : ds.Pairwise (· ≥ ·)) (hw : Wd ds) (x : Nat) {m : Int} (h1 : m ∈ ds.drop x ++ [0]) (h2 : ∀ y ∈ ds.drop x ++ [0], y ≤ m) : m = atZ ds x := by
  have hz := hw.at x
  by_cases hx : x < ds.length
  · have e : atZ ds x = ds[x] := by unfold atZ; simp [List.getD, hx]
    have hd : ds.drop x = ds[x] :: ds.drop (x + 1) := List.drop_eq_getElem_cons hx
    have k1 : ds[x] ≤ m := h2 _ (List.mem_append_left _ (by rw [hd]; exact List.mem_cons_self))
    have k2 : m ≤ ds[x] := by
      rcases List.mem_append.mp h1 with h | h
      · have hp := hs.drop (i := x)
        rw [hd] at h hp
        rcases List.mem_cons.mp h with h | h
        · omega
        · have := (List.pairwise_cons.mp hp).1 m h
          omega
      · rw [List.mem_singleton.mp h, ← e]
        exact hz.1
    rw [e]
    omega
  · have e : atZ ds x = 0 := by unfold atZ; simp [List.getD, hx]
    have hd : ds.drop x = [] := List.drop_eq_nil_of_le (by omega)
    rw [hd] at h1
    rw [e]
    simpa using h1
def fV (ds : List Int) (b : Option (Int × Nat)) (v : V) (H : Hp) : Prop :=
  match b with
  | none => v = .non
  | some p => ∃ t, v = .ref t ∧ H t = some (.tup (bT ds (some p)))
theorem fV.same {ds : List Int} {b : Option (Int × Nat)} {v : V} {H H' : Hp} (h : fV ds b v H) (s : Same H H') : fV ds b v H' := by
  cases b with
  | none => exact h
  | some p =>
    obtain ⟨t, e, h⟩ := h
    exact ⟨t, e, s _ _ h⟩
section
variable {P : Program} {w : World} {K : PySem.W.Frag} {mg : Str → Option Value} {base : Heap} {C : Addr}
theorem ok_Lh (D : DefAt K mg "_law_head" sLh) : Cl P w K mg base 1 "_law_head" (spLh K) := by
  refine cl_of D scLh (fun vs H Q E h => ?_) (fun _ _ _ _ _ _ us hl => match us, hl with | [_], _ => rfl) (fun f cdv A1 outer s H vs Q E hr h => ?_)
  · obtain ⟨q, y, hd, rfl, _⟩ := h
    rfl
  · obtain ⟨q, y, hd, rfl, hq, hh, k⟩ := h
    refine ⟨_, pss_one (ps_ret (pe_ifExp (pt_cmpR op_lt (pe_ix ix_list (pv 0) pe_int (fun _ _ => rfl)) pe_int (nomark _)) pe_int (pe_ix ix_list (pv 0) pe_int (fun _ _ => rfl)))), ?_⟩
    unfold HdOk at hh
    refine ⟨_, rfl, q, _, 4, _, rfl, rfl, hq, by rfl, _, _, rfl, rfl, _, rfl, ?_⟩
    refine ite2 (fun h => ?_) (fun h => ?_)
    · have h := of_decide_eq_true h
      rw [if_pos h] at hh
      have e : nI y.H = .int 8 := congrArg V.int hh
      rw [e] at k
      exact k
    · have h := fun z => h (decide_eq_true z)
      rw [if_neg h] at hh
      have e : nI y.H = .int hd := congrArg V.int hh
      rw [e] at k
      exact ⟨_, rfl, q, _, 4, _, rfl, rfl, hq, by rfl, k⟩
theorem ok_Lw (D : DefAt K mg "_law_width" sLw) (T : Txt K mg) : Cl P w K mg base 1 "_law_width" spLw := by
  refine cl_of D scLw (fun vs H Q E h => ?_) (fun _ _ _ _ _ _ us hl => match us, hl with | [_], _ => rfl) (fun f cdv A1 outer s H vs Q E hr h => ?_)
  · obtain ⟨i, rfl, _⟩ := h
    rfl
  · obtain ⟨i, rfl, k⟩ := h
    refine ⟨_, pss_one (ps_ret (pe_bits (pe_callTy call_int1 (by rfl) (by exact T.int) PyProof.Rows.boot_int (pa_cons (pv 0) pa_nil)))), ?_⟩
    exact ⟨_, rfl, .inl ⟨i, rfl, i, rfl, k⟩⟩
theorem ok_LW (D : DefAt K mg "_law_weight" sLW) (T : Txt K mg) (TL : TxtL K mg C) (CH : Cl P w K mg base 1 "_law_head" (spLh K)) : Cl P w K mg base 2 "_law_weight" (spLW K) := by
  refine cl_of D scLW (fun vs H Q E h => ?_) (fun _ _ _ _ _ _ us hl => match us, hl with | [_, _], _ => rfl) (fun f cdv A1 outer s H vs Q E hr h => ?_)
  · obtain ⟨q, l, y, hd, ws, rfl, _⟩ := h
    rfl
  · obtain ⟨q, l, y, hd, ws, rfl, hq, hh, ok, hl, hw, hn, h0, k⟩ := h
    have hD : (desc ws).Pairwise (· ≥ ·) := desc_sorted ws
    have hWD := hw.desc
    have hlen := desc_len ws
    generalize hds : desc ws = ds at *
    refine ⟨_, pss_cons (ps_par (i := 2) (j := 3) (by rfl) scLW.nd rfl rfl (by decide) rfl rfl (pa_cons (pe_callBK (cr_sortedRev (b := true)) (by rfl) (by exact TL.sorted) (by decide +kernel) (pa_cons (pv 1) pa_nil) (pk_cons pe_bl pk_nil)) (pa_cons pe_non pa_nil)) (by rfl))
(C8.pss_cut (ps_for PassesOwn.never rfl (pi_range1 rfl (by exact T.range) (pa_cons (pe_op op_add (pe_callB (call_min2 rfl) (by rfl) (by exact T.min) (by decide +kernel) (pa_cons (pe_ix ix_list (pv 0) pe_int (fun _ _ => rfl)) (pa_cons (pe_callB call_len_seq (by rfl) (by exact T.len) PySem.boot_len (pa_cons (pv 2) pa_nil)) pa_nil))) pe_int) pa_nil)) (pg_name (i := 4) scLW.nd rfl (Or.inl rfl))
(pss_one (ps_if (pt_imp (t' := fun σ G Q => ∃ (x : Nat) (o : Addr) (v : V) (x5 x6 : Option V), σ = [some (.ref q), some (.ref l), some (.ref o), some v, some (.int (0 + (x : Int))), x5, x6] ∧ Same H G ∧ G o = some (.lst (ds.map V.int)) ∧ Q (decide (x = 0 ∨ atZ ds 0 ≤ y.X)) G) (PW.pt (pw_or (pt_cmpR op_eq (pv 4) pe_int (nomark _)) (pw_or1 (pt_cmpR op_le (pe_ix ix_list (pv 2) pe_int (fun _ _ => rfl)) (pe_ix ix_list (pv 0) pe_int (fun _ _ => rfl)) (nomark _))))) (by
      rintro σ G Q ⟨x, o, v, x5, x6, rfl, sm, ho, kq⟩
      refine ⟨_, rfl, rfl, _, rfl, ?_⟩
      refine ite2 (fun hx => ?_) (fun hx => ?_)
      · have hx : x = 0 := by have := V.int.inj (of_decide_eq_true hx); omega
        rw [decide_eq_true (.inl hx)] at kq
        exact kq
      · have hx : ¬ x = 0 := fun z => hx (decide_eq_true (by rw [z]; rfl))
        refine ⟨_, rfl, o, _, 0, _, rfl, rfl, .inl (.inl ho), at_at (x := 0) (by omega), _, rfl, q, _, 3, _, rfl, rfl, SqL_same hq sm, by rfl, _, _, rfl, rfl, _, rfl, ?_⟩
        have e : decide (x = 0 ∨ atZ ds 0 ≤ (y.X : Int)) = decide (atZ ds 0 ≤ (y.X : Int)) := decide_eq_decide.mpr ⟨fun z => z.resolve_left hx, .inr⟩
        rw [e] at kq
        exact kq))
(pss_cons (ps_set (i := 5) scLW.nd rfl (Or.inl rfl) (pe_imp (t' := fun σ G Q => ∃ (x : Nat) (o : Addr) (v : V) (x5 x6 : Option V), σ = [some (.ref q), some (.ref l), some (.ref o), some v, some (.int (0 + (x : Int))), x5, x6] ∧ G o = some (.lst (ds.map V.int)) ∧ x ≤ 100 ∧ ∀ G', Same G G' → Q (.int (atZ ds x)) G') (pe_callB (cr_max rfl) (by rfl) (by exact TL.max) (by decide +kernel) (pa_cons (pe_op op_cat (pe_slice sl_list (pv 2) (po_some (pv 4)) po_none) (pe_lst (pa_cons pe_int pa_nil))) pa_nil)) (by
      rintro σ G Q ⟨x, o, v, x5, x6, rfl, ho, hx100, kq⟩
      refine ⟨_, rfl, _, rfl, _, rfl, o, _, rfl, .inl (.inl ho), fun p hp => ?_⟩
      rw [Int.zero_add, cut_from, ← List.map_drop]
      refine ⟨by show 1 ≤ sizeLine; decide, fun p2 hp2 => ⟨p, p2, _, _, rfl, rfl, sNew hp2 _ _ upd_same, upd_same, ?_, fun p3 hp3 => ?_⟩⟩
      · rw [List.length_map, List.length_drop, sizeLine_eq]
        show _ + 1 ≤ _
        omega
      · refine ⟨p3, ds.drop x ++ [0], rfl, .inl (.inl (by rw [upd_same, List.map_append]; rfl)), by rw [List.length_append]; show 0 < _ + 1; omega, fun m h1 h2 => ?_⟩
        rw [max_drop hD hWD x h1 h2]
        exact kq _ ((sNew hp).trans ((sNew hp2).trans (sNew hp3))))))
(pss_cons (ps_set (i := 6) scLW.nd rfl (Or.inl rfl) (pe_op op_add (pe_op op_mul (pe_callB call_len_seq (by rfl) (by exact T.len) PySem.boot_len (pa_cons (pv 2) pa_nil)) (pv 5)) (pe_op op_mul (pv 4) (pe_ix ix_list (pv 0) pe_int (fun _ _ => rfl)))))
(pss_one (ps_if (pt_imp (t' := fun σ G Q => ∃ (b : Option (Int × Nat)) (o : Addr) (v : V) (z : Int) (x4 x5 : Option V), σ = [some (.ref q), some (.ref l), some (.ref o), some v, x4, x5, some (.int z)] ∧ Same H G ∧ fV ds b v G ∧ Q (isB b (z + y.H)) G) (PW.pt (pw_or (pt_cmpR op_isN (pv 3) pe_non (nomark _)) (pw_or1 (pt_cmpR op_lt (pe_op op_add (pv 6) (pe_cl CH hr (by decide) rfl (pa_cons (pv 0) pa_nil))) (pe_ix ix_tup (pv 3) pe_int (fun _ _ => rfl)) (nomark _))))) (by
      rintro σ G Q ⟨b, o, v, z, x4, x5, rfl, sm, hv, kq⟩
      cases b with
      | none =>
        have hv : v = .non := hv
        subst hv
        exact ⟨_, rfl, rfl, true, rfl, kq⟩
      | some p =>
        obtain ⟨t, rfl, ht⟩ := hv
        refine ⟨_, rfl, rfl, false, rfl, ?_⟩
        refine (if_neg (by decide)).mpr ?_
        refine ⟨_, rfl, _, rfl, q, y, hd, rfl, SqL_same hq sm, hh, _, _, rfl, rfl, _, rfl, t, _, 0, _, rfl, rfl, .inl (.inl ht), by rfl, _, _, rfl, rfl, _, rfl, kq⟩))
(pss_one (ps_set (i := 3) scLW.nd rfl (Or.inl rfl) (pe_tup (pa_cons (pe_op op_add (pv 6) (pe_cl CH hr (by decide) rfl (pa_cons (pv 0) pa_nil))) (pa_cons (pv 4) (pa_cons (pv 5) pa_nil))))))
pss_nil))))
pss_nil)))
(pss_one (ps_ret (pv 3)))), ?_⟩
    refine ⟨_, rfl, l, ws, rfl, rfl, hl, fun ns o hp ho hn0 => ?_⟩
    have e : ns = ds := by rw [← hds]; exact desc_of hp ho
    subst e
    have s0 := sNew (o := .lst (ns.map V.int)) hn0
    refine ⟨_, _, rfl, ?_⟩
    generalize hG0 : upd H o (.lst (ns.map V.int)) = G0 at *
    have ho0 : G0 o = some (.lst (ns.map V.int)) := by rw [← hG0]; exact upd_same
    refine ⟨fun σ G => ∃ (v : V) (x4 x5 x6 : Option V), σ = [some (.ref q), some (.ref l), some (.ref o), some v, x4, x5, x6] ∧ Same G0 G ∧ fV ns (wB y ns (mE y ns.length)) v G, ?_, ?_⟩
    · have hm : (if ((ns.map V.int).length : Int) < (y.E : Int) then ((ns.map V.int).length : Int) else (y.E : Int)) + 1 = ((mE y ns.length : Nat) : Int) := by
        rw [List.length_map]
        unfold mE
        split <;> omega
      have hm9 : mE y ns.length ≤ 5 := by have := ok.e; unfold mE; omega
      refine ⟨_, rfl, q, _, 2, _, rfl, rfl, SqL_same hq s0, by rfl, _, rfl, o, _, rfl, .inl (.inl (.inl ho0)), _, _, rfl, _, _, rfl, rfl, ((mE y ns.length : Nat) : Int), congrArg (fun z => [V.int z]) hm, by omega, by omega, ?_⟩
      refine for_range (lo := 0) (n := (((mE y ns.length : Nat) : Int)).toNat) (fun i σ G => ∃ (v : V) (x4 x5 x6 : Option V), σ = [some (.ref q), some (.ref l), some (.ref o), some v, x4, x5, x6] ∧ Same G0 G ∧ fV ns (wB y ns i) v G)
        ⟨.non, _, _, _, rfl, .refl _, rfl⟩ ?_ ?_
      · rintro i σ G hi ⟨v, x4, x5, x6, rfl, sm, hv⟩
        rw [wB_succ]
        refine ⟨i, o, v, x5, x6, rfl, s0.trans sm, sm _ _ ho0, ?_⟩
        refine ite2 (fun hc => ?_) (fun hc => ?_)
        · have hc := of_decide_eq_true hc
          rw [wS_yes hc]
          refine ⟨i, o, v, x5, x6, rfl, sm _ _ ho0, by omega, fun G2 s2 => ?_⟩
          have hwi := hWD.at i
          have hL : (ns.map V.int).length = ns.length := List.length_map ..
          have sm2 := sm.trans s2
          have hq2 := SqL_same hq (s0.trans sm2)
          refine ⟨_, rfl, o, _, rfl, .inl (.inl (.inl (sm2 _ _ ho0))), _, rfl, _, _, rfl, rfl, .inl ⟨by omega, by omega⟩, _, rfl, _, rfl, q, _, 3, _, rfl, rfl, hq2, by rfl, _, _, rfl, rfl, .inl ⟨by have := ok.e; omega, by have := ok.x; omega⟩, _, _, rfl, rfl, ?_⟩
          have e1 : (((ns.map V.int).length : Nat) : Int) * atZ ns i + (0 + (i : Int)) * (y.X : Int) + (y.H : Int) = wOf y ns i := by
            rw [List.length_map, Int.zero_add]
            rfl
          refine ⟨wB y ns i, o, v, _, _, _, rfl, s0.trans sm2, hv.same s2, ?_⟩
          rw [e1]
          refine ite2 (fun hb => ?_) (fun hb => ?_)
          · rw [if_pos hb]
            refine ⟨_, rfl, _, rfl, q, y, hd, rfl, hq2, hh, _, _, rfl, rfl, _, rfl, _, rfl, by show 3 ≤ sizeLine; decide, fun p hp => ?_⟩
            refine ⟨.ref p, _, _, _, rfl, sm2.trans (sNew hp), p, rfl, ?_⟩
            have e2 : 0 + (i : Int) = (i : Int) := Int.zero_add _
            rw [upd_same]
            show some (HO.tup [V.int ((((ns.map V.int).length : Nat) : Int) * atZ ns i + (0 + (i : Int)) * (y.X : Int) + (y.H : Int)), V.int (0 + (i : Int)), V.int (atZ ns i)]) = _
            rw [e1, e2]
            rfl
          · rw [if_neg hb]
            exact ⟨v, _, _, _, rfl, sm2, hv.same s2⟩
        · have hc := fun z => hc (decide_eq_true z)
          rw [wS_no hc]
          exact ⟨v, _, _, _, rfl, sm, hv⟩
      · rintro σ G ⟨v, x4, x5, x6, rfl, sm, hv⟩
        exact ⟨v, _, _, _, rfl, sm, hv⟩
    · rintro σ G ⟨v, x4, x5, x6, rfl, sm, hv⟩
      obtain ⟨p, hp⟩ := Option.isSome_iff_exists.mp (wB_some y ns (min y.E ns.length))
      have hp : wB y ns (mE y ns.length) = some p := hp
      rw [hp] at hv
      obtain ⟨t, rfl, ht⟩ := hv
      refine ⟨_, rfl, k t G (s0.trans sm) ?_⟩
      rw [ht]
      unfold Wt
      rw [hp]
      rfl
end
end Wq
set_option Elab.async false
set_option linter.all false
set_option maxRecDepth 100000
set_option maxHeartbeats 4000000
namespace Wq
open PySem PySem.Spec PyProof.Rows L2
/-! cuts into blocks: weight, number of blocks, lengths -/
abbrev En := Int × Nat × List Nat
def ek (e : En) : List Int := [e.1, (e.2.1 : Int), -((e.2.2.headD 0 : Nat) : Int)]
def pickE (b : Option En) (e : En) : Option En :=
  match b with
  | none => some e
  | some p => if HT.lexLt (ek e) (ek p) = true then some e else some p
def eN (g : Nat → Nat → Int) (n : Nat) (T : List En) (r len : Nat) : En := (g (n - r) len + (T.getD (r - len) (0, 0, [])).1, (T.getD (r - len) (0, 0, [])).2.1 + 1, len :: (T.getD (r - len) (0, 0, [])).2.2)
def bsE (g : Nat → Nat → Int) (n : Nat) (T : List En) (r k : Nat) : Option En := (List.range k).foldl (fun b i => pickE b (eN g n T r (i + 1))) none
theorem bsE_succ (g : Nat → Nat → Int) (n : Nat) (T : List En) (r k : Nat) : bsE g n T r (k + 1) = pickE (bsE g n T r k) (eN g n T r (k + 1)) := by
  unfold bsE
  rw [List.range_succ, List.foldl_append]
  rfl
theorem bsE_some (g : Nat → Nat → Int) (n : Nat) (T : List En) (r k : Nat) : ∃ e, bsE g n T r (k + 1) = some e := by
  rw [bsE_succ]
  unfold pickE
  split
  · exact ⟨_, rfl⟩
  · split <;> exact ⟨_, rfl⟩
def TbE (g : Nat → Nat → Int) (n B : Nat) : Nat → List En
  | 0 => [(0, 0, [])]
  | r + 1 => TbE g n B r ++ [(bsE g n (TbE g n B r) (r + 1) (min B (r + 1))).getD (0, 0, [])]
theorem TbE_len (g : Nat → Nat → Int) (n B r : Nat) : (TbE g n B r).length = r + 1 := by
  induction r with
  | zero => rfl
  | succ r ih => rw [TbE, List.length_append, ih]; rfl
/-- the best of so many steps behind -/
def De (g : Nat → Nat → Int) (n B r : Nat) : En := (TbE g n B r).getD r (0, 0, [])
theorem TbE_at (g : Nat → Nat → Int) (n B : Nat) {r i : Nat} (h : i ≤ r) : (TbE g n B r)[i]? = some (De g n B i) := by
  induction r with
  | zero =>
    have : i = 0 := by omega
    subst this
    rfl
  | succ r ih =>
    by_cases h1 : i ≤ r
    · rw [TbE, List.getElem?_append_left (by rw [TbE_len]; omega)]
      exact ih h1
    · have : i = r + 1 := by omega
      subst this
      unfold De
      rw [TbE, List.getElem?_append_right (by rw [TbE_len]; omega), TbE_len]
      simp [List.getD, List.getElem?_append_right, TbE_len]
theorem TbE_getD (g : Nat → Nat → Int) (n B : Nat) {r i : Nat} (h : i ≤ r) : (TbE g n B r).getD i (0, 0, []) = De g n B i := by
  simp [List.getD, TbE_at g n B h]
theorem De_succ (g : Nat → Nat → Int) (n B r : Nat) : De g n B (r + 1) = (bsE g n (TbE g n B r) (r + 1) (min B (r + 1))).getD (0, 0, []) := by
  unfold De
  rw [TbE]
  simp [List.getD, List.getElem?_append_right, TbE_len]
/-- an entry of the table in terms of the best ones behind -/
theorem eN_De (g : Nat → Nat → Int) (n B : Nat) {r len : Nat} (h : 1 ≤ len) : eN g n (TbE g n B r) (r + 1) len = (g (n - (r + 1)) len + (De g n B (r + 1 - len)).1, (De g n B (r + 1 - len)).2.1 + 1, len :: (De g n B (r + 1 - len)).2.2) := by
  unfold eN
  rw [TbE_getD g n B (by omega)]
theorem lx_irr : ∀ a : List Int, HT.lexLt a a = false
  | [] => rfl
  | x :: xs => by rw [HT.lexLt_cons, if_pos rfl]; exact lx_irr xs
/-- the best is one of the entries, and none is less -/
theorem bsE_spec (g : Nat → Nat → Int) (n : Nat) (T : List En) (r : Nat) :
    ∀ k e, bsE g n T r k = some e → (∃ i, i < k ∧ e = eN g n T r (i + 1)) ∧ ∀ i, i < k → HT.lexLt (ek (eN g n T r (i + 1))) (ek e) = false := by
  intro k
  induction k with
  | zero => intro e h; cases h
  | succ k ih =>
    intro e h
    rw [bsE_succ] at h
    unfold pickE at h
    split at h
    · rename_i hb
      have : eN g n T r (k + 1) = e := Option.some.inj h
      subst this
      refine ⟨⟨k, by omega, rfl⟩, fun i hi => ?_⟩
      by_cases hik : i = k
      · subst hik; exact lx_irr _
      · cases k with
        | zero => omega
        | succ k =>
          obtain ⟨e', he'⟩ := bsE_some g n T r k
          rw [he'] at hb
          cases hb
    · rename_i p hb
      obtain ⟨⟨i0, hi0, e0⟩, hm⟩ := ih p hb
      split at h
      · rename_i hlt
        have : eN g n T r (k + 1) = e := Option.some.inj h
        subst this
        refine ⟨⟨k, by omega, rfl⟩, fun i hi => ?_⟩
        by_cases hik : i = k
        · subst hik; exact lx_irr _
        · exact NtL.lex_tr _ _ _ (NtL.lex_asym _ _ hlt) (hm i (by omega))
      · rename_i hlt
        have : p = e := Option.some.inj h
        subst this
        refine ⟨⟨i0, by omega, e0⟩, fun i hi => ?_⟩
        by_cases hik : i = k
        · subst hik; simpa using hlt
        · exact hm i (by omega)
/-- the best of r + 1 steps -/
theorem De_spec (g : Nat → Nat → Int) (n B r : Nat) (hB : 1 ≤ B) : ∃ l, 1 ≤ l ∧ l ≤ B ∧ l ≤ r + 1 ∧ De g n B (r + 1) = eN g n (TbE g n B r) (r + 1) l ∧ ∀ i, 1 ≤ i → i ≤ B → i ≤ r + 1 → HT.lexLt (ek (eN g n (TbE g n B r) (r + 1) i)) (ek (De g n B (r + 1))) = false := by
  have hm : min B (r + 1) = (min B (r + 1) - 1) + 1 := by omega
  obtain ⟨e, he⟩ := bsE_some g n (TbE g n B r) (r + 1) (min B (r + 1) - 1)
  rw [← hm] at he
  obtain ⟨⟨i, hi, e1⟩, h2⟩ := bsE_spec g n (TbE g n B r) (r + 1) _ e he
  have hD : De g n B (r + 1) = e := by rw [De_succ, he]; rfl
  refine ⟨i + 1, by omega, by omega, by omega, by rw [hD, e1], fun j h1 hj1 hj2 => ?_⟩
  rw [hD]
  have := h2 (j - 1) (by omega)
  rw [show j - 1 + 1 = j by omega] at this
  exact this
/-- lengths of blocks that make r steps -/
def Cut (B : Nat) : Nat → List Nat → Prop
  | r, [] => r = 0
  | r, l :: p => 1 ≤ l ∧ l ≤ B ∧ l ≤ r ∧ Cut B (r - l) p
/-- the weight of such blocks at the end -/
def Wc (g : Nat → Nat → Int) (n : Nat) : Nat → List Nat → Int
  | _, [] => 0
  | r, l :: p => g (n - r) l + Wc g n (r - l) p
def ngs (p : List Nat) : List Int := p.map fun l : Nat => -(l : Int)
def fk (g : Nat → Nat → Int) (n r : Nat) (p : List Nat) : List Int := Wc g n r p :: (p.length : Int) :: ngs p
theorem De_zero (g : Nat → Nat → Int) (n B : Nat) : De g n B 0 = (0, 0, []) := rfl
/-- what the best one is -/
theorem De_cut (g : Nat → Nat → Int) (n B : Nat) (hB : 1 ≤ B) : ∀ r, Cut B r (De g n B r).2.2 ∧ (De g n B r).1 = Wc g n r (De g n B r).2.2 ∧ (De g n B r).2.1 = (De g n B r).2.2.length := by
  intro r
  induction r using Nat.strongRecOn with
  | _ r ih =>
    cases r with
    | zero => exact ⟨rfl, rfl, rfl⟩
    | succ r =>
      obtain ⟨l, h1, h2, h3, e, _⟩ := De_spec g n B r hB
      rw [eN_De g n B h1] at e
      obtain ⟨i1, i2, i3⟩ := ih (r + 1 - l) (by omega)
      rw [e]
      refine ⟨⟨h1, h2, h3, i1⟩, ?_, ?_⟩
      · show g (n - (r + 1)) l + _ = g (n - (r + 1)) l + _
        rw [i2]
      · show _ + 1 = _ + 1
        rw [i3]
theorem lx_cons_le {x : Int} {a b : List Int} (h : HT.lexLt b a = false) : HT.lexLt (x :: b) (x :: a) = false := by
  rw [HT.lexLt_cons, if_pos rfl]
  exact h
/-- adding the same to what stands first -/
theorem fk_cons_le (g : Nat → Nat → Int) (n r l : Nat) {p p' : List Nat} (h : HT.lexLt (fk g n (r - l) p') (fk g n (r - l) p) = false) : HT.lexLt (fk g n r (l :: p')) (fk g n r (l :: p)) = false := by
  unfold fk at *
  simp only [Wc, List.length_cons, ngs, List.map_cons] at *
  rw [HT.lexLt_cons] at h ⊢
  by_cases e : Wc g n (r - l) p' = Wc g n (r - l) p
  · rw [if_pos e] at h
    rw [if_pos (by rw [e])]
    rw [HT.lexLt_cons] at h ⊢
    by_cases e2 : (p'.length : Int) = (p.length : Int)
    · rw [if_pos e2] at h
      rw [if_pos (by omega), HT.lexLt_cons, if_pos rfl]
      exact h
    · rw [if_neg e2] at h
      rw [if_neg (by omega)]
      have := of_decide_eq_false h
      exact decide_eq_false (by omega)
  · rw [if_neg e] at h
    rw [if_neg (by omega)]
    have := of_decide_eq_false h
    exact decide_eq_false (by omega)
/-- none is less than the best one -/
theorem De_least (g : Nat → Nat → Int) (n B : Nat) (hB : 1 ≤ B) : ∀ r p, Cut B r p → HT.lexLt (fk g n r p) (fk g n r (De g n B r).2.2) = false := by
  intro r
  induction r using Nat.strongRecOn with
  | _ r ih =>
    intro p hp
    cases p with
    | nil =>
      have : r = 0 := hp
      subst this
      exact lx_irr _
    | cons l p =>
      obtain ⟨h1, h2, h3, h4⟩ := hp
      cases r with
      | zero => omega
      | succ r =>
        have i1 := fk_cons_le g n (r + 1) l (ih (r + 1 - l) (by omega) p h4)
        refine NtL.lex_tr _ _ _ ?_ i1
        obtain ⟨l0, a1, a2, a3, e, hm⟩ := De_spec g n B r hB
        have hl := hm l h1 h2 h3
        have e' := e
        rw [eN_De g n B a1] at e'
        rw [e', eN_De g n B h1] at hl
        rw [e']
        obtain ⟨c1, c2, c3⟩ := De_cut g n B hB (r + 1 - l)
        obtain ⟨d1, d2, d3⟩ := De_cut g n B hB (r + 1 - l0)
        simp only [ek, List.headD_cons] at hl
        unfold fk
        simp only [Wc, List.length_cons, ngs, List.map_cons]
        rw [c2, c3, d2, d3] at hl
        rw [HT.lexLt_cons] at hl ⊢
        split at hl
        · rename_i e1
          rw [if_pos e1]
          rw [HT.lexLt_cons] at hl ⊢
          split at hl
          · rename_i e2
            rw [if_pos e2]
            rw [HT.lexLt_cons] at hl ⊢
            split at hl
            · rename_i e3
              have : l = l0 := by omega
              subst this
              rw [if_pos rfl]
              exact lx_irr _
            · rename_i e3
              rw [if_neg e3]
              exact hl
          · rename_i e2
            rw [if_neg e2]
            exact hl
        · rename_i e1
          rw [if_neg e1]
          exact hl
theorem lx_eq : ∀ a b : List Int, HT.lexLt a b = false → HT.lexLt b a = false → a = b
  | [], [], _, _ => rfl
  | [], _ :: _, h, _ => by cases h
  | _ :: _, [], _, h => by cases h
  | x :: a, y :: b, h1, h2 => by
    rw [HT.lexLt_cons] at h1 h2
    by_cases e : x = y
    · subst e
      rw [if_pos rfl] at h1 h2
      rw [lx_eq a b h1 h2]
    · rw [if_neg e] at h1
      rw [if_neg (fun z => e z.symm)] at h2
      have := of_decide_eq_false h1
      have := of_decide_eq_false h2
      omega
theorem ngs_inj {p q : List Nat} (h : ngs p = ngs q) : p = q := by
  unfold ngs at h
  refine List.map_inj_right (f := fun l : Nat => -(l : Int)) (fun a b h => by have h : -(a : Int) = -(b : Int) := h; omega) |>.mp h
end Wq
set_option Elab.async false
set_option linter.all false
set_option maxRecDepth 100000
set_option maxHeartbeats 4000000
namespace Wq
open PySem PySem.Spec PyProof.Rows L2
/-! ranges with their numbers as numbers -/
theorem for_down {n : Nat} {g : TG} {tb : TS} {D : Ends} {σ : L2.St} {H : Hp} (Pv : Nat → L2.St → Hp → Prop) (h0 : Pv 0 σ H)
    (hs : ∀ i σ H, i < n → Pv i σ H → g (nI (n - 1 - i)) σ H fun σ2 H2 => tb { D with nx := Pv (i + 1), ct := Pv (i + 1), bk := D.nx } σ2 H2) (hd : ∀ σ H, Pv n σ H → D.nx σ H) :
    ∃ W : Nat → Nat → L2.St → Hp → Prop, (∃ m, W 0 m σ H) ∧ ∀ i m σ H, W i m σ H →
      ((Itc ((n : Int) - 1) (-1) n).stop i H ∧ D.nx σ H) ∨ ((Itc ((n : Int) - 1) (-1) n).go i H ∧ ∃ N : L2.St → Hp → Prop, (∀ σ' H', N σ' H' → ∃ m', m' < m ∧ W (i + 1) m' σ' H') ∧ ∀ x H', (Itc ((n : Int) - 1) (-1) n).yld i H x H' → g x σ H' fun σ2 H2 => tb { D with nx := N, ct := N, bk := D.nx } σ2 H2) :=
  for_rangeC (lo := (n : Int) - 1) (c := -1) (n := n) Pv h0 (fun i σ H hi p => by
    have e : (n : Int) - 1 + (i : Nat) * (-1) = ((n - 1 - i : Nat) : Int) := by omega
    rw [e]
    exact hs i σ H hi p) hd
theorem for_up {n : Nat} {k : Int} {g : TG} {tb : TS} {D : Ends} {σ : L2.St} {H : Hp} (hk : k = (n : Int)) (Pv : Nat → L2.St → Hp → Prop) (h0 : Pv 0 σ H)
    (hs : ∀ i σ H, i < n → Pv i σ H → g (nI (i + 1)) σ H fun σ2 H2 => tb { D with nx := Pv (i + 1), ct := Pv (i + 1), bk := D.nx } σ2 H2) (hd : ∀ σ H, Pv n σ H → D.nx σ H) :
    ∃ W : Nat → Nat → L2.St → Hp → Prop, (∃ m, W 0 m σ H) ∧ ∀ i m σ H, W i m σ H →
      ((Itr 1 k.toNat).stop i H ∧ D.nx σ H) ∨ ((Itr 1 k.toNat).go i H ∧ ∃ N : L2.St → Hp → Prop, (∀ σ' H', N σ' H' → ∃ m', m' < m ∧ W (i + 1) m' σ' H') ∧ ∀ x H', (Itr 1 k.toNat).yld i H x H' → g x σ H' fun σ2 H2 => tb { D with nx := N, ct := N, bk := D.nx } σ2 H2) := by
  subst hk
  refine for_range (lo := 1) (n := ((n : Int)).toNat) Pv h0 (fun i σ H hi p => ?_) hd
  have e : (1 : Int) + (i : Int) = ((i + 1 : Nat) : Int) := by omega
  rw [e]
  exact hs i σ H (by omega) p
/-! a part of a row of ints -/
def rSlx (K : PySem.W.Frag) : V → Option Int → Option Int → Hp → VK → Prop := fun x lo hi H Q => ∃ (a : Addr) (ss : List Int) (b e : Nat), x = .ref a ∧ lo = some (b : Int) ∧ hi = some (e : Int) ∧ b ≤ e ∧ e ≤ ss.length ∧ Sqx K H a (ss.map V.int) ∧
  ∀ a' H', Same H H' → Sqx K H' a' (((ss.drop b).take (e - b)).map V.int) → Q (.ref a') H'
theorem sl_x {X : Cx} : SlR X (rSlx X.K) := by
  have h := (sl_list (X := X)).or (sl_tupA (X := X))
  intro pins s σ H x v vl vu lo hi sl Q I rx hs pl pu q
  obtain ⟨a, ss, b, e, rfl, rfl, rfl, hbe, hen, hx, k⟩ := q
  have hc : cutV (ss.map V.int) (some (b : Int)) (some (e : Int)) = ((ss.drop b).take (e - b)).map V.int := by
    rw [cut_mid hbe (by rw [List.length_map]; exact hen), List.map_take, List.map_drop]
  refine h pins s σ H (.ref a) v vl vu _ _ sl Q I rx hs pl pu ?_
  rcases hx with hx | hx
  · refine .inl ⟨a, _, rfl, hx, fun p hp => ?_⟩
    rw [hc]
    exact k p _ (sNew hp) (.inl (.inl (.inl upd_same)))
  · refine .inr ⟨a, _, rfl, hx, fun hw => ?_, fun hw p hp => ?_⟩
    · rw [HT.sIx_nat, HT.sIx_nat, List.length_map] at hw
      have e1 : (ss.drop b).take (e - b) = ss := by
        have hb : b = 0 ∨ ss.length = 0 := by omega
        have he : e = ss.length := by omega
        rcases hb with hb | hb
        · rw [hb, he, List.drop_zero, Nat.sub_zero, List.take_length]
        · have : ss = [] := List.length_eq_zero_iff.mp hb
          rw [this]
          simp
      refine k a H (.refl H) (.inr ?_)
      rw [e1]
      exact hx
    · rw [hc]
      exact k p _ (sNew hp) (.inr (.inl (.inl upd_same)))
/-! the table -/
def EnAt (G : Hp) (t : Addr) (e : En) : Prop := G t = some (.tup ((ek e).map V.int))
def foV : Option En → List V
  | none => []
  | some e => (ek e).map V.int
def BsAt (G : Hp) (p : Addr) (T : List En) : Prop := ∃ ts : List Addr, G p = some (.lst (ts.map V.ref)) ∧ ts.length = T.length ∧ ∀ (i : Nat) (e : En), T[i]? = some e → ∃ t, ts[i]? = some t ∧ EnAt G t e
theorem BsAt.same {G G' : Hp} {p : Addr} {T : List En} (h : BsAt G p T) (s : Same G G') : BsAt G' p T := by
  obtain ⟨ts, h1, h2, h3⟩ := h
  exact ⟨ts, s _ _ h1, h2, fun i e hi => (h3 i e hi).imp fun t ⟨a, b⟩ => ⟨a, s _ _ b⟩⟩
theorem BsAt.push {G : Hp} {p t : Addr} {T : List En} {e : En} (h : BsAt G p T) (ht : EnAt G t e) : ∃ xs, G p = some (.lst xs) ∧ xs.length = T.length ∧ BsAt (upd G p (.lst (xs ++ [.ref t]))) p (T ++ [e]) := by
  obtain ⟨ts, h1, h2, h3⟩ := h
  refine ⟨_, h1, by rw [List.length_map]; exact h2, ts ++ [t], by rw [upd_same, List.map_append]; rfl, by rw [List.length_append, List.length_append, h2]; rfl, fun i e' hi => ?_⟩
  have keep : ∀ t' e', EnAt G t' e' → EnAt (upd G p (.lst (ts.map V.ref ++ [.ref t]))) t' e' := fun t' e' h' => by
    have n : t' ≠ p := ne_of h' h1 (fun z => nomatch z)
    unfold EnAt at *
    rw [upd_ne n]
    exact h'
  by_cases hl : i < T.length
  · rw [List.getElem?_append_left hl] at hi
    obtain ⟨t', a, b⟩ := h3 i e' hi
    exact ⟨t', by rw [List.getElem?_append_left (by omega)]; exact a, keep _ _ b⟩
  · rw [List.getElem?_append_right (by omega)] at hi
    have hz : i - T.length = 0 := by
      have := (List.getElem?_eq_some_iff.mp hi).1
      simp at this
      omega
    rw [hz] at hi
    have he : e = e' := by simpa using hi
    subst he
    exact ⟨t, by rw [List.getElem?_append_right (by omega), show i - ts.length = 0 by omega]; rfl, keep _ _ ht⟩
/-- the weight of the block at a place -/
def gW (y : Ly) (ss : List Int) (b len : Nat) : Int := (Bw y ((ss.drop b).take len)).1
end Wq
set_option Elab.async false
set_option linter.all false
set_option maxRecDepth 100000
set_option maxHeartbeats 4000000
namespace Wq
open PySem PySem.Spec PyProof.Rows L2
abbrev sFC : Stmt := top 21
abbrev NFC : List Str := ["layout", "steps", "best", "begin", "found", "length", "rest", "weight", "way", "lengths", "left"]
theorem scFC : FnScope NFC ["layout", "steps"] (defScope sFC) := ⟨rfl, rfl, rfl, by decide +kernel, rfl, by decide +kernel, by decide +kernel⟩
/-- the lengths of the blocks of a row -/
def Fc (y : Ly) (ss : List Int) : List Nat := (De (gW y ss) ss.length y.B ss.length).2.2
def spFC (K : PySem.W.Frag) (C : Addr) : Sp := fun vs H Q _ => ∃ (a l : Addr) (y : Ly) (ss : List Int), vs = [.ref a, .ref l] ∧ LyAt C H a y ∧ y.Ok ∧ Sqx K H l (ss.map V.int) ∧ St ss ∧ ss.length ≤ 2000 ∧
  ∀ p H', Same H H' → H' p = some (.tup ((Fc y ss).map nI)) → Q (.ref p) H'
def isP (b : Option En) (e : En) : Bool :=
  match b with
  | none => true
  | some p => HT.lexLt (ek e) (ek p)
theorem pickE_yes {b : Option En} {e : En} (h : isP b e = true) : pickE b e = some e := by
  cases b with
  | none => rfl
  | some p => unfold pickE; simp only [if_pos (show HT.lexLt (ek e) (ek p) = true from h)]
theorem pickE_no {b : Option En} {e : En} (h : ¬ isP b e = true) : pickE b e = b := by
  cases b with
  | none => exact absurd rfl h
  | some p => unfold pickE; simp only [if_neg (show ¬ HT.lexLt (ek e) (ek p) = true from h)]
theorem St.part {ss : List Int} (h : St ss) (b k : Nat) : St ((ss.drop b).take k) := fun s hs => h s (List.mem_of_mem_drop (List.mem_of_mem_take hs))
section
variable {P : Program} {w : World} {K : PySem.W.Frag} {mg : Str → Option Value} {base : Heap} {C CE : Addr}
theorem ok_FC (D : DefAt K mg "free_cuts" sFC) (T : Txt K mg) (TL : TxtL K mg C) {fB : Addr} {fdB : FuncData} (MB : Meth K C "block_weight" fB) (GB : FnOk P w K mg base (L2.CX P w) 3 fB fdB ["self", "steps"] (spBW K C CE)) (bB : Binds K fdB ["self", "steps"] []) : Cl P w K mg base 4 "free_cuts" (spFC K C) := by
  refine cl_of D scFC (fun vs H Q E h => ?_) (fun _ _ _ _ _ _ us hl => match us, hl with | [_, _], _ => rfl) (fun f cdv A1 outer s H vs Q E hr h => ?_)
  · obtain ⟨a, l, y, ss, rfl, _⟩ := h
    rfl
  · obtain ⟨a, l, y, ss, rfl, hy, ok, hl, hs, hn, k⟩ := h
    have hL : (ss.map V.int).length = ss.length := List.length_map ..
    refine ⟨_, pss_cons (ps_set (i := 2) scFC.nd rfl (Or.inl rfl) (pe_lst (pa_cons (pe_tup (pa_cons pe_int (pa_cons pe_int (pa_cons pe_int pa_nil)))) pa_nil)))
(C8.pss_cut (ps_for PassesOwn.never rfl (pi_range3 rfl (by exact T.range) (pa_cons (pe_op op_sub (pe_callB call_len_seq (by rfl) (by exact T.len) PySem.boot_len (pa_cons (pv 1) pa_nil)) pe_int) (pa_cons (pe_un un_neg pe_int) (pa_cons (pe_un un_neg pe_int) pa_nil)))) (pg_name (i := 3) scFC.nd rfl (Or.inl rfl))
(pss_cons (ps_set (i := 4) scFC.nd rfl (Or.inl rfl) (pe_tup pa_nil))
(C8.pss_cut (ps_for PassesOwn.never rfl (pi_range2 rfl (by exact T.range) (pa_cons pe_int (pa_cons (pe_op op_add (pe_callB (call_min2 rfl) (by rfl) (by exact T.min) (by decide +kernel) (pa_cons (pe_fld (pv 0) rfl) (pa_cons (pe_op op_sub (pe_callB call_len_seq (by rfl) (by exact T.len) PySem.boot_len (pa_cons (pv 1) pa_nil)) (pv 3)) pa_nil))) pe_int) pa_nil))) (pg_name (i := 5) scFC.nd rfl (Or.inl rfl))
(pss_cons (ps_set (i := 6) scFC.nd rfl (Or.inl rfl) (pe_ix ix_list (pv 2) (pe_op op_sub (pe_op op_sub (pe_callB call_len_seq (by rfl) (by exact T.len) PySem.boot_len (pa_cons (pv 1) pa_nil)) (pv 3)) (pv 5)) (fun _ _ => rfl)))
(pss_cons (ps_set (i := 7) scFC.nd rfl (Or.inl rfl) (pe_ix ix_tup (pe_meth (pv 0) TL.cl MB GB (hr.mono (by decide)) bB .nil passF (pa_cons (pe_slice sl_x (pv 1) (po_some (pv 3)) (po_some (pe_op op_add (pv 3) (pv 5)))) pa_nil)) pe_int (fun _ _ => rfl)))
(pss_cons (ps_set (i := 8) scFC.nd rfl (Or.inl rfl) (pe_tup (pa_cons (pe_op op_add (pv 7) (pe_ix ix_tup (pv 6) pe_int (fun _ _ => rfl))) (pa_cons (pe_op op_add pe_int (pe_ix ix_tup (pv 6) pe_int (fun _ _ => rfl))) (pa_cons (pe_un un_neg (pv 5)) pa_nil)))))
(pss_one (ps_if (pt_imp (t' := fun σ G Q => ∃ (b : Option En) (e : En) (q o : Addr) (x0 x1 x2 x3 x5 x6 x7 x9 x10 : Option V), σ = [x0, x1, x2, x3, some (.ref q), x5, x6, x7, some (.ref o), x9, x10] ∧ G q = some (.tup (foV b)) ∧ EnAt G o e ∧ ∀ G', Same G G' → Q (isP b e) G') (PW.pt (pw_or (pt_cmpR (op_eqD (hu64 hr)) (pv 4) (pe_tup pa_nil) (nomark _)) (pw_or1 (pt_cmpR (op_ltT (Nat.lt_of_le_of_lt (Nat.le_add_right _ _) (hu64 hr))) (pv 8) (pv 4) (nomark _))))) (by
      rintro σ G Q ⟨b, e, q, o, x0, x1, x2, x3, x5, x6, x7, x9, x10, rfl, hq, ho, kq⟩
      refine ⟨_, rfl, by show 0 ≤ sizeLine; decide, fun z hz => ?_⟩
      have s1 := sNew (o := .tup []) hz
      cases b with
      | none =>
        refine ⟨.tuple [], .tuple [], .tup (.inl (.inl (s1 _ _ hq))) .nil, .tup (.inl (.inl upd_same)) .nil, by rfl, by rfl, true, by rfl, ?_⟩
        exact kq _ s1
      | some p =>
        refine ⟨.tuple [.int p.1, .int p.2.1, .int (-((p.2.2.headD 0 : Nat) : Int))], .tuple [], .tup (.inl (.inl (s1 _ _ hq))) (.cons (.int _) (.cons (.int _) (.cons (.int _) .nil))), .tup (.inl (.inl upd_same)) .nil, rfl, by rfl, false, by rfl, ?_⟩
        refine (if_neg (by decide)).mpr ?_
        exact ⟨_, rfl, _, rfl, o, q, ek e, ek p, rfl, rfl, .inl (.inl (s1 _ _ ho)), .inl (.inl (s1 _ _ hq)), _, rfl, kq _ s1⟩))
(pss_one (ps_set (i := 4) scFC.nd rfl (Or.inl rfl) (pv 8)))
pss_nil))))))
(pss_one (ps_expr (pe_bm PySem.F.plainAttrs_list PySem.F.slot_list_append PySem.F.type_list_append mt_append (pv 2) (pa_cons (pv 4) pa_nil)))))))
(pss_cons (ps_set (i := 9) scFC.nd rfl (Or.inl rfl) (pe_lst pa_nil))
(pss_cons (ps_set (i := 10) scFC.nd rfl (Or.inl rfl) (pe_callB call_len_seq (by rfl) (by exact T.len) PySem.boot_len (pa_cons (pv 1) pa_nil)))
(C8.pss_cut (ps_while PassesOwn.never (pt_cmpR op_gt (pv 10) pe_int (nomark _))
(pss_cons (ps_expr (pe_bm PySem.F.plainAttrs_list PySem.F.slot_list_append PySem.F.type_list_append mt_append (pv 9) (pa_cons (pe_un un_neg (pe_ix ix_tup (pe_ix ix_list (pv 2) (pv 10) (fun _ _ => rfl)) pe_int (fun _ _ => rfl))) pa_nil)))
(pss_one (ps_aug (i := 10) scFC.nd rfl (Or.inl rfl) (pe_ix ix_tup (pe_ix ix_list (pv 2) (pv 10) (fun _ _ => rfl)) pe_int (fun _ _ => rfl)) ip_add))))
(pss_one (ps_ret (pe_callTy call_tuple_of (by rfl) (by exact T.tuple) (by decide +kernel) (pa_cons (pv 9) pa_nil)))))))), ?_⟩
    generalize hN : ss.length = N at *
    generalize hg : gW y ss = g at *
    refine ⟨by show 3 ≤ sizeLine; decide, fun t0 ht0 => ⟨by show 1 ≤ sizeLine; decide, fun p0 hp0 => ?_⟩⟩
    have s1 := sNew (o := .tup [.int 0, .int 0, .int 0]) ht0
    have s2 := sNew (o := .lst [.ref t0]) hp0
    have s0 := s1.trans s2
    have b0 : BsAt (upd (upd H t0 (.tup [.int 0, .int 0, .int 0])) p0 (.lst [.ref t0])) p0 (TbE g N y.B 0) := ⟨[t0], upd_same, rfl, fun i e he => by
      have hi : i = 0 := by
        have := (List.getElem?_eq_some_iff.mp he).1
        simp [TbE] at this
        exact this
      subst hi
      have he : ((0, 0, []) : En) = e := Option.some.inj he
      subst he
      exact ⟨t0, rfl, s2 _ _ upd_same⟩⟩
    refine ⟨fun σ G => ∃ x3 x4 x5 x6 x7 x8 : Option V, σ = [some (.ref a), some (.ref l), some (.ref p0), x3, x4, x5, x6, x7, x8, none, none] ∧ Same H G ∧ BsAt G p0 (TbE g N y.B N), ?_, ?_⟩
    · refine ⟨_, rfl, l, _, rfl, hl.same s0, _, _, rfl, rfl, _, rfl, _, rfl, (N : Int) - 1, -1, -1, N, by rw [hL], ?_, ?_⟩
      · have := RgC.neg (i := (N : Int) - 1) (j := -1) (by omega) (by omega) (by omega) (by omega)
        rwa [show ((N : Int) - 1 - -1).toNat = N by omega] at this
      refine for_down (fun i σ G => ∃ x3 x4 x5 x6 x7 x8 : Option V, σ = [some (.ref a), some (.ref l), some (.ref p0), x3, x4, x5, x6, x7, x8, none, none] ∧ Same H G ∧ BsAt G p0 (TbE g N y.B i)) ⟨_, _, _, _, _, _, rfl, s0, b0⟩ ?_ ?_
      · rintro i σ G hi ⟨x3, x4, x5, x6, x7, x8, rfl, sm, hb⟩
        refine ⟨by show 0 ≤ sizeLine; decide, fun q0 hq0 => ?_⟩
        have sq := sNew (o := .tup []) hq0
        refine ⟨fun σ G' => ∃ (q : Addr) (x5 x6 x7 x8 : Option V), σ = [some (.ref a), some (.ref l), some (.ref p0), some (nI (N - 1 - i)), some (.ref q), x5, x6, x7, x8, none, none] ∧ Same G G' ∧ G' q = some (.tup (foV (bsE g N (TbE g N y.B i) (i + 1) (min y.B (i + 1))))), ?_, ?_⟩
        · obtain ⟨dx, tx, hd⟩ := hy.same (sm.trans sq)
          have hm : (if (N : Int) - ((N - 1 - i : Nat) : Int) < (y.B : Int) then (N : Int) - ((N - 1 - i : Nat) : Int) else (y.B : Int)) + 1 = ((min y.B (i + 1) : Nat) : Int) + 1 := by
            split <;> omega
          have hB := ok.b16
          refine ⟨_, rfl, a, C, dx, _, nI y.B, rfl, hd, TL.cl, TL.nB, rfl, _, rfl, l, _, rfl, hl.same (sm.trans sq), _, rfl, _, _, rfl, rfl, _, _, rfl, _, _, rfl, rfl, 1, ((min y.B (i + 1) : Nat) : Int) + 1, ?_, by omega, ?_⟩
          · rw [hL]
            exact congrArg (fun z => [V.int 1, V.int z]) hm
          refine for_up (n := min y.B (i + 1)) (by omega) (fun j σ G' => ∃ (q : Addr) (x5 x6 x7 x8 : Option V), σ = [some (.ref a), some (.ref l), some (.ref p0), some (nI (N - 1 - i)), some (.ref q), x5, x6, x7, x8, none, none] ∧ Same G G' ∧ G' q = some (.tup (foV (bsE g N (TbE g N y.B i) (i + 1) j))))
            ⟨q0, _, _, _, _, rfl, sq, upd_same⟩ ?_ ?_
          · rintro j σ G2 hj ⟨q, x5, x6, x7, x8, rfl, sm2, hq⟩
            rw [bsE_succ]
            have smA := sm.trans sm2
            obtain ⟨ts, hp, hlen, hts⟩ := hb.same sm2
            have hT := TbE_at g N y.B (r := i) (i := i - j) (by omega)
            obtain ⟨t, ht, hE⟩ := hts _ _ hT
            refine ⟨_, rfl, _, rfl, l, _, rfl, hl.same smA, _, rfl, _, _, rfl, rfl, _, rfl, _, _, rfl, rfl, p0, _, _, .ref t, rfl, rfl, .inl (.inl hp), ?_, ?_⟩
            · have e : ((ss.map V.int).length : Int) - ((N - 1 - i : Nat) : Int) - ((j + 1 : Nat) : Int) = ((i - j : Nat) : Int) := by omega
              refine (congrArg (fun z => atI (ts.map V.ref) z = some (V.ref t)) e).mpr (atI_nat ?_)
              rw [List.getElem?_map, ht]
              rfl
            obtain ⟨dx, tx, hd⟩ := hy.same smA
            refine ⟨_, rfl, a, dx, _, rfl, hd, by rfl, _, rfl, _, rfl, _, rfl, _, rfl, _, rfl, _, _, rfl, rfl, _, rfl, l, ss, N - 1 - i, N - 1 - i + (j + 1), rfl, rfl, ?_, by omega, by omega, hl.same smA, fun a' G3 s3 h3 => ?_⟩
            · exact congrArg some (show ((N - 1 - i : Nat) : Int) + ((j + 1 : Nat) : Int) = ((N - 1 - i + (j + 1) : Nat) : Int) by omega)
            have hpl : ((ss.drop (N - 1 - i)).take (N - 1 - i + (j + 1) - (N - 1 - i))).length = j + 1 := by
              rw [List.length_take, List.length_drop]
              omega
            refine ⟨a, a', y, _, rfl, hy.same (smA.trans s3), ok, h3, hs.part _ _, by omega, fun _ _ r G4 s4 hr4 => ?_, fun hne => absurd ⟨by omega, by omega⟩ hne⟩
            have hgw : (Bw y ((ss.drop (N - 1 - i)).take (N - 1 - i + (j + 1) - (N - 1 - i)))).1 = g (N - (i + 1)) (j + 1) := by
              rw [← hg]
              unfold gW
              rw [show N - 1 - i + (j + 1) - (N - 1 - i) = j + 1 by omega, show N - (i + 1) = N - 1 - i by omega]
            refine ⟨r, _, 0, _, rfl, rfl, .inl (.inl hr4), by rfl, ?_⟩
            have smB := s3.trans s4
            have hE4 := smB _ _ hE
            refine ⟨_, rfl, _, rfl, t, _, 0, _, rfl, rfl, .inl (.inl hE4), by rfl, _, _, rfl, rfl, ?_⟩
            refine ⟨_, rfl, t, _, 1, _, rfl, rfl, .inl (.inl hE4), by rfl, _, _, rfl, rfl, ?_⟩
            refine ⟨_, rfl, _, rfl, by show 3 ≤ sizeLine; decide, fun o ho => ?_⟩
            have hv : [V.int ((Bw y ((ss.drop (N - 1 - i)).take (N - 1 - i + (j + 1) - (N - 1 - i)))).1 + (De g N y.B (i - j)).1), V.int (1 + ((De g N y.B (i - j)).2.1 : Int)), V.int (-((j + 1 : Nat) : Int))] = (ek (eN g N (TbE g N y.B i) (i + 1) (j + 1))).map V.int := by
              rw [eN_De g N y.B (by omega), show i + 1 - (j + 1) = i - j by omega, hgw]
              have e : (1 : Int) + ((De g N y.B (i - j)).2.1 : Int) = (((De g N y.B (i - j)).2.1 + 1 : Nat) : Int) := by omega
              rw [e]
              rfl
            refine ⟨bsE g N (TbE g N y.B i) (i + 1) j, eN g N (TbE g N y.B i) (i + 1) (j + 1), q, o, _, _, _, _, _, _, _, _, _, rfl, sNew ho _ _ (smB _ _ hq), ?_, fun G5 s5 => ?_⟩
            · unfold EnAt
              rw [← hv]
              exact upd_same
            have smC := smB.trans ((sNew ho).trans s5)
            refine ite2 (fun hb2 => ?_) (fun hb2 => ?_)
            · rw [pickE_yes hb2]
              refine ⟨_, rfl, o, _, _, _, _, rfl, sm2.trans smC, ?_⟩
              show G5 o = some (.tup ((ek (eN g N (TbE g N y.B i) (i + 1) (j + 1))).map V.int))
              rw [← hv]
              exact s5 _ _ upd_same
            · rw [pickE_no hb2]
              exact ⟨q, _, _, _, _, rfl, sm2.trans smC, smC _ _ hq⟩
          · rintro σ G2 ⟨q, x5, x6, x7, x8, rfl, sm2, hq⟩
            exact ⟨q, _, _, _, _, rfl, sm2, hq⟩
        · rintro σ G2 ⟨q, x5, x6, x7, x8, rfl, sm2, hq⟩
          have hb2 := hb.same sm2
          obtain ⟨e, he⟩ := bsE_some g N (TbE g N y.B i) (i + 1) (min y.B (i + 1) - 1)
          rw [show min y.B (i + 1) - 1 + 1 = min y.B (i + 1) by have := ok.b1; omega] at he
          rw [he] at hq
          obtain ⟨xs, h1, h2, h3⟩ := hb2.push (t := q) (e := e) hq
          have hTl := TbE_len g N y.B i
          refine ⟨_, rfl, .inl ⟨rfl, xs, .inl (.inl h1)⟩, _, rfl, p0, xs, .ref q, rfl, rfl, h1, by rw [h2, hTl, sizeLine_eq]; omega, ?_⟩
          refine ⟨_, _, _, _, _, _, rfl, sPut (sm.trans sm2) (s1.free hp0), ?_⟩
          rw [TbE, he]
          exact h3
      · rintro σ G ⟨x3, x4, x5, x6, x7, x8, rfl, sm, hb⟩
        exact ⟨_, _, _, _, _, _, rfl, sm, hb⟩
    · rintro σ G ⟨x3, x4, x5, x6, x7, x8, rfl, sm, hb⟩
      have hFc : (De g N y.B N).2.2 = Fc y ss := by
        unfold Fc
        rw [hN, hg]
      refine ⟨by show 0 ≤ sizeLine; decide, fun p9 hp9 => ?_⟩
      have s9 := sNew (o := .lst []) hp9
      refine ⟨_, rfl, l, _, rfl, hl.same (sm.trans s9), ?_⟩
      rw [hL]
      refine ⟨fun σ G' => ∃ x10 : Option V, σ = [some (.ref a), some (.ref l), some (.ref p0), x3, x4, x5, x6, x7, x8, some (.ref p9), x10] ∧ Same H G' ∧ G' p9 = some (.lst ((Fc y ss).map nI)), ?_, ?_⟩
      · refine ⟨fun m σ G' => ∃ dn : List Nat, σ = [some (.ref a), some (.ref l), some (.ref p0), x3, x4, x5, x6, x7, x8, some (.ref p9), some (nI m)] ∧ m ≤ N ∧ dn.length + m ≤ N ∧ Same G G' ∧ G' p9 = some (.lst (dn.map nI)) ∧ dn ++ (De g N y.B m).2.2 = Fc y ss, ⟨N, [], rfl, Nat.le_refl _, by show 0 + N ≤ N; omega, s9, upd_same, hFc⟩, ?_⟩
        rintro m σ G' ⟨dn, rfl, hm, hdl, sg, hd9, hdn⟩
        refine ⟨_, rfl, _, _, rfl, rfl, _, rfl, ?_⟩
        refine ite2 (fun h0 => ?_) (fun h0 => ?_)
        · have h0 : 0 < m := by have := of_decide_eq_true h0; omega
          obtain ⟨r, rfl⟩ : ∃ r, m = r + 1 := ⟨m - 1, by omega⟩
          obtain ⟨l0, a1, a2, a3, e, _⟩ := De_spec g N y.B r ok.b1
          rw [eN_De g N y.B a1] at e
          obtain ⟨ts, hp, hlen, hts⟩ := hb.same sg
          obtain ⟨t, ht, hE⟩ := hts _ _ (TbE_at g N y.B hm)
          have hat : atI (ts.map V.ref) (((r + 1 : Nat)) : Int) = some (.ref t) := atI_nat (by rw [List.getElem?_map, ht]; rfl)
          have hk : (ek (De g N y.B (r + 1))).map V.int = [.int (De g N y.B (r + 1)).1, .int (De g N y.B (r + 1)).2.1, .int (-(l0 : Int))] := by
            rw [e]
            rfl
          unfold EnAt at hE
          rw [hk] at hE
          refine ⟨_, fun σ' H' h => h, ?_⟩
          refine ⟨_, rfl, .inl ⟨rfl, _, .inl (.inl hd9)⟩, _, rfl, _, rfl, p0, _, _, _, rfl, rfl, .inl (.inl hp), hat, t, _, 2, _, rfl, rfl, .inl (.inl hE), by rfl, _, rfl, p9, _, _, rfl, rfl, hd9, by rw [List.length_map, sizeLine_eq]; omega, ?_⟩
          have n0 : p0 ≠ p9 := ne_of_none (hb.choose_spec.1) hp9
          have nt : t ≠ p9 := ne_of hE hd9 (fun z => nomatch z)
          refine ⟨_, rfl, _, rfl, _, rfl, p0, _, _, _, rfl, rfl, .inl (.inl (by rw [upd_ne n0]; exact hp)), hat, t, _, 2, _, rfl, rfl, .inl (.inl (by rw [upd_ne nt]; exact hE)), by rfl, _, _, rfl, rfl, ?_⟩
          refine ⟨r + 1 - l0, by omega, dn ++ [l0], ?_, by omega, by rw [List.length_append]; show dn.length + 1 + _ ≤ N; omega, sPut sg hp9, ?_, ?_⟩
          · have e2 : ((r + 1 : Nat) : Int) + -(l0 : Int) = ((r + 1 - l0 : Nat) : Int) := by omega
            exact congrArg (fun z => [some (V.ref a), some (.ref l), some (.ref p0), x3, x4, x5, x6, x7, x8, some (.ref p9), some (V.int z)]) e2
          · rw [upd_same, List.map_append]
            exact congrArg (fun z => some (HO.lst (dn.map nI ++ [V.int z]))) (Int.neg_neg (l0 : Int))
          · rw [← hdn, e, List.append_assoc]
            rfl
        · have h0 : m = 0 := by
            by_cases z : m = 0
            · exact z
            · exact absurd (decide_eq_true (show (0 : Int) < ((m : Nat) : Int) by omega)) h0
          subst h0
          rw [De_zero, List.append_nil] at hdn
          rw [hdn] at hd9
          exact ⟨_, rfl, sm.trans sg, hd9⟩
      · rintro σ G' ⟨x10, rfl, sg, hd9⟩
        exact ⟨_, rfl, p9, _, rfl, .inl ⟨.inl (.inl hd9), fun p hp => k p _ (sg.trans (sNew hp)) upd_same⟩⟩
end
end Wq
set_option Elab.async false
set_option linter.all false
set_option maxRecDepth 100000
set_option maxHeartbeats 4000000
namespace Wq
open PySem PySem.Spec PyProof.Rows L2
/-- blocks of B, the last one has what is left -/
def Pc (B n : Nat) : List Nat := List.replicate (n / B) B ++ (if B * (n / B) < n then [n - B * (n / B)] else [])
theorem Cut_rep {B : Nat} (hB : 1 ≤ B) : ∀ (k r : Nat) (p : List Nat), Cut B r p → Cut B (k * B + r) (List.replicate k B ++ p)
  | 0, r, p, h => by simpa using h
  | k + 1, r, p, h => by
    rw [List.replicate_succ]
    have e : (k + 1) * B = k * B + B := Nat.succ_mul k B
    refine ⟨hB, Nat.le_refl _, by omega, ?_⟩
    have : (k + 1) * B + r - B = k * B + r := by omega
    rw [this]
    exact Cut_rep hB k r p h
theorem Pc_cut {B n : Nat} (hB : 1 ≤ B) : Cut B n (Pc B n) := by
  have h1 := Nat.div_add_mod n B
  have h2 := Nat.mod_lt n hB
  unfold Pc
  have e : n = (n / B) * B + (n - B * (n / B)) := by rw [Nat.mul_comm]; omega
  have c : Cut B (n - B * (n / B)) (if B * (n / B) < n then [n - B * (n / B)] else []) := by
    by_cases h : B * (n / B) < n
    · rw [if_pos h]
      exact ⟨by omega, by omega, Nat.le_refl _, by show n - B * (n / B) - (n - B * (n / B)) = 0; omega⟩
    · rw [if_neg h]
      show n - B * (n / B) = 0
      omega
  have := Cut_rep hB (n / B) _ _ c
  rwa [← e] at this
/-- how a layout cuts -/
def Cs (y : Ly) (ss : List Int) : List Nat := if y.fr = true then Fc y ss else Pc y.B ss.length
theorem Cs_cut {y : Ly} (ok : y.Ok) (ss : List Int) : Cut y.B ss.length (Cs y ss) := by
  unfold Cs
  split
  · exact (De_cut _ _ _ ok.b1 _).1
  · exact Pc_cut ok.b1
theorem Cut_len {B : Nat} : ∀ {r : Nat} {p : List Nat}, Cut B r p → p.length ≤ r
  | r, [], h => Nat.zero_le _
  | r, l :: p, ⟨h1, _, h3, h4⟩ => by
    have := Cut_len h4
    show p.length + 1 ≤ r
    omega
abbrev sCu : Stmt := inClass (top 18) 3
abbrev sTo : Stmt := inClass (top 18) 4
theorem scCu : FnScope ["self", "steps", "many", "lengths"] ["self", "steps"] (defScope sCu) := ⟨rfl, rfl, rfl, by decide +kernel, rfl, by decide +kernel, by decide +kernel⟩
theorem scTo : FnScope ["self", "steps", "weight", "begin", "length"] ["self", "steps"] (defScope sTo) := ⟨rfl, rfl, rfl, by decide +kernel, rfl, by decide +kernel, by decide +kernel⟩
def spCu (K : PySem.W.Frag) (C : Addr) : Sp := fun vs H Q _ => ∃ (a l : Addr) (y : Ly) (ss : List Int), vs = [.ref a, .ref l] ∧ LyAt C H a y ∧ y.Ok ∧ Sqx K H l (ss.map V.int) ∧ St ss ∧ ss.length ≤ 2000 ∧
  ∀ p H', Same H H' → H' p = some (.tup ((Cs y ss).map nI)) → Q (.ref p) H'
def spTo (K : PySem.W.Frag) (C : Addr) : Sp := fun vs H Q _ => ∃ (a l : Addr) (y : Ly) (ss : List Int), vs = [.ref a, .ref l] ∧ LyAt C H a y ∧ y.Ok ∧ Sqx K H l (ss.map V.int) ∧ St ss ∧ ss.length ≤ 2000 ∧
  ∀ H', Same H H' → Q (.int (Wc (gW y ss) ss.length ss.length (Cs y ss))) H'
section
variable {P : Program} {w : World} {K : PySem.W.Frag} {mg : Str → Option Value} {base : Heap} {C CE : Addr}
theorem ok_Cu {f : Addr} {fd : FuncData} (F : Fun K "cuts" "Layout.cuts" sCu f fd) (T : Txt K mg) (TL : TxtL K mg C) (CF : Cl P w K mg base 4 "free_cuts" (spFC K C)) : FnOk P w K mg base CX0 5 f fd ["self", "steps"] (spCu K C) := by
  refine F.ok scCu (fun vs H Q E h => ?_) (fun cdv A outer s H vs Q E hr h => ?_)
  · obtain ⟨a, l, y, ss, rfl, _⟩ := h
    rfl
  · obtain ⟨a, l, y, ss, rfl, hy, ok, hl, hs, hn, k⟩ := h
    refine ⟨_, pss_cons (ps_if (pt_val (pe_fld (pv 0) rfl))
(pss_one (ps_ret (pe_cl CF hr (by decide) rfl (pa_cons (pv 0) (pa_cons (pv 1) pa_nil)))))
pss_nil)
(pss_cons (ps_set (i := 2) scCu.nd rfl (Or.inl rfl) (pe_callB call_len_seq (by rfl) (by exact T.len) PySem.boot_len (pa_cons (pv 1) pa_nil)))
(pss_cons (ps_set (i := 3) scCu.nd rfl (Or.inl rfl) (pe_op op_rep (pe_lst (pa_cons (pe_fld (pv 0) rfl) pa_nil)) (pe_op op_fdivNN (pv 2) (pe_fld (pv 0) rfl))))
(C8.pss_cut (ps_if (pt_cmpR op_gt (pv 2) (pe_op op_mul (pe_fld (pv 0) rfl) (pe_callB call_len_seq (by rfl) (by exact T.len) PySem.boot_len (pa_cons (pv 3) pa_nil))) (nomark _))
(pss_one (ps_expr (pe_bm PySem.F.plainAttrs_list PySem.F.slot_list_append PySem.F.type_list_append mt_append (pv 3) (pa_cons (pe_op op_sub (pv 2) (pe_op op_mul (pe_fld (pv 0) rfl) (pe_callB call_len_seq (by rfl) (by exact T.len) PySem.boot_len (pa_cons (pv 3) pa_nil)))) pa_nil))))
pss_nil)
(pss_one (ps_ret (pe_callTy call_tuple_of (by rfl) (by exact T.tuple) (by decide +kernel) (pa_cons (pv 3) pa_nil))))))), ?_⟩
    obtain ⟨dx, tx, hd⟩ := id hy
    refine ⟨_, rfl, a, C, dx, _, .bl y.fr, rfl, hd, TL.cl, TL.nF, rfl, y.fr, rfl, ?_⟩
    refine ite2 (fun hf => ?_) (fun hf => ?_)
    · refine ⟨_, rfl, _, rfl, a, l, y, ss, rfl, hy, ok, hl, hs, hn, fun p H' s' hp => k p H' s' ?_⟩
      unfold Cs
      rw [if_pos hf]
      exact hp
    · have hL : (ss.map V.int).length = ss.length := List.length_map ..
      have hC : Cs y ss = Pc y.B ss.length := by unfold Cs; rw [if_neg hf]
      rw [hC] at k
      generalize hN : ss.length = N at *
      have hB := ok.b16
      have hB1 := ok.b1
      have hdv : N / y.B ≤ N := Nat.div_le_self _ _
      refine ⟨_, rfl, l, _, rfl, hl, ?_⟩
      rw [hL]
      refine ⟨_, rfl, a, C, dx, _, nI y.B, rfl, hd, TL.cl, TL.nB, rfl, by show 1 ≤ sizeLine; decide, fun p0 hp0 => ?_⟩
      have s0 := sNew (o := .lst [nI y.B]) hp0
      refine ⟨_, rfl, _, rfl, a, C, dx, _, nI y.B, rfl, s0 _ _ hd, TL.cl, TL.nB, rfl, N, y.B, rfl, rfl, ⟨by omega, by omega⟩, p0, ((N / y.B : Nat) : Int), [nI y.B], rfl, rfl, upd_same, Int.le_trans (by decide) (Int.natCast_nonneg _), Int.lt_of_le_of_lt (Int.ofNat_le.mpr hdv) (by omega), by rw [sizeLine_eq]; show 1 * (N / y.B) ≤ _; omega, fun p hp => ?_⟩
      have s1 := s0.trans (sNew (o := .lst (List.replicate ((N / y.B : Nat) : Int).toNat [nI y.B]).flatten) hp)
      have hfl : (List.replicate ((N / y.B : Nat) : Int).toNat [nI y.B]).flatten = (List.replicate (N / y.B) y.B).map nI := by
        rw [Int.toNat_natCast, List.map_replicate]
        generalize N / y.B = z
        induction z with
        | zero => rfl
        | succ z ih => rw [List.replicate_succ, List.replicate_succ, List.flatten_cons, ih]; rfl
      have hlst : upd (upd H p0 (.lst [nI y.B])) p (.lst (List.replicate ((N / y.B : Nat) : Int).toNat [nI y.B]).flatten) p = some (.lst ((List.replicate (N / y.B) y.B).map nI)) := by rw [upd_same, hfl]
      generalize hG : upd (upd H p0 (.lst [nI y.B])) p (.lst (List.replicate ((N / y.B : Nat) : Int).toNat [nI y.B]).flatten) = G at *
      have hln : ((List.replicate (N / y.B) y.B).map nI).length = N / y.B := by rw [List.length_map, List.length_replicate]
      have hpH : H p = none := s0.free hp
      refine ⟨fun σ G' => σ = [some (.ref a), some (.ref l), some (nI N), some (.ref p)] ∧ Same H G' ∧ G' p = some (.lst ((Pc y.B N).map nI)), ?_, ?_⟩
      · have hmul : (y.B : Int) * ((((List.replicate (N / y.B) y.B).map nI).length : Nat) : Int) = ((y.B * (N / y.B) : Nat) : Int) := by
          rw [hln]
          exact (Int.natCast_mul _ _).symm
        have hq : y.B * (N / y.B) ≤ N := Nat.mul_div_le N y.B
        refine ⟨_, rfl, _, rfl, a, C, dx, _, nI y.B, rfl, s1 _ _ hd, TL.cl, TL.nB, rfl, _, rfl, p, _, rfl, .inl (.inl (.inl hlst)), _, _, rfl, rfl, .inl ⟨by omega, by omega⟩, _, _, rfl, rfl, _, rfl, ?_⟩
        rw [hmul]
        refine ite2 (fun hc => ?_) (fun hc => ?_)
        · have hc : y.B * (N / y.B) < N := Int.ofNat_lt.mp (of_decide_eq_true hc)
          refine ⟨_, rfl, .inl ⟨rfl, _, .inl (.inl hlst)⟩, _, rfl, _, rfl, a, C, dx, _, nI y.B, rfl, s1 _ _ hd, TL.cl, TL.nB, rfl, _, rfl, p, _, rfl, .inl (.inl (.inl hlst)), _, _, rfl, rfl, .inl ⟨by omega, by omega⟩, _, _, rfl, rfl, p, _, _, rfl, rfl, hlst, by rw [hln, sizeLine_eq]; omega, rfl, sPut s1 hpH, ?_⟩
          rw [upd_same, hmul]
          unfold Pc
          rw [if_pos hc, List.map_append]
          have e : ((N : Nat) : Int) - ((y.B * (N / y.B) : Nat) : Int) = ((N - y.B * (N / y.B) : Nat) : Int) := (Int.ofNat_sub hq).symm
          exact congrArg (fun z => some (HO.lst ((List.replicate (N / y.B) y.B).map nI ++ [V.int z]))) e
        · have hc : ¬ y.B * (N / y.B) < N := fun z => hc (decide_eq_true (Int.ofNat_lt.mpr z))
          refine ⟨rfl, s1, ?_⟩
          unfold Pc
          rw [if_neg hc, List.append_nil]
          exact hlst
      · rintro σ G' ⟨rfl, sg, hp9⟩
        exact ⟨_, rfl, p, _, rfl, .inl ⟨.inl (.inl hp9), fun t ht => k t _ (sg.trans (sNew ht)) upd_same⟩⟩
theorem ok_To {f fC fB : Addr} {fd fdC fdB : FuncData} (F : Fun K "total" "Layout.total" sTo f fd) (T : Txt K mg) (TL : TxtL K mg C) (MC : Meth K C "cuts" fC) (GC : FnOk P w K mg base CX0 5 fC fdC ["self", "steps"] (spCu K C)) (bC : Binds K fdC ["self", "steps"] [])
    (MB : Meth K C "block_weight" fB) (GB : FnOk P w K mg base (L2.CX P w) 3 fB fdB ["self", "steps"] (spBW K C CE)) (bB : Binds K fdB ["self", "steps"] []) : FnOk P w K mg base CX0 6 f fd ["self", "steps"] (spTo K C) := by
  refine F.ok scTo (fun vs H Q E h => ?_) (fun cdv A outer s H vs Q E hr h => ?_)
  · obtain ⟨a, l, y, ss, rfl, _⟩ := h
    rfl
  · obtain ⟨a, l, y, ss, rfl, hy, ok, hl, hs, hn, k⟩ := h
    refine ⟨_, pss_cons (ps_set (i := 2) scTo.nd rfl (Or.inl rfl) pe_int)
(pss_cons (ps_set (i := 3) scTo.nd rfl (Or.inl rfl) pe_int)
(C8.pss_cut (ps_for PassesOwn.never rfl (pi_tup (pe_meth (pv 0) TL.cl MC GC hr bC .nil pass0 (pa_cons (pv 1) pa_nil))) (pg_name (i := 4) scTo.nd rfl (Or.inl rfl))
(pss_cons (ps_aug (i := 2) scTo.nd rfl (Or.inl rfl) (pe_ix ix_tup (pe_meth (pv 0) TL.cl MB GB (hr.mono (by decide)) bB .nil passF (pa_cons (pe_slice sl_x (pv 1) (po_some (pv 3)) (po_some (pe_op op_add (pv 3) (pv 4)))) pa_nil)) pe_int (fun _ _ => rfl)) ip_add)
(pss_one (ps_aug (i := 3) scTo.nd rfl (Or.inl rfl) (pv 4) ip_add))))
(pss_one (ps_ret (pv 2))))), ?_⟩
    obtain ⟨dx, tx, hd⟩ := id hy
    have hcut := Cs_cut ok ss
    have hW : Wc (gW y ss) ss.length ss.length (Cs y ss) = Wc (gW y ss) ss.length ss.length (Cs y ss) := rfl
    generalize hcs : Cs y ss = cs at *
    generalize hg : gW y ss = g at *
    generalize hN : ss.length = N at *
    refine ⟨fun σ G => ∃ x3 x4 : Option V, σ = [some (.ref a), some (.ref l), some (.int (Wc g N N cs)), x3, x4] ∧ Same H G, ?_, ?_⟩
    · refine ⟨_, rfl, a, dx, _, rfl, hd, by rfl, _, rfl, a, l, y, ss, rfl, hy, ok, hl, hs, by omega, fun p G s1 hp => ?_⟩
      rw [hcs] at hp
      refine ⟨p, rfl, ⟨_, .inl (.inl hp)⟩, for_tup (K := K) (a := p) (xs := cs.map nI) (fun j σ G' => ∃ (b : Nat) (W : Int) (x4 : Option V), σ = [some (.ref a), some (.ref l), some (.int W), some (nI b), x4] ∧ Same G G' ∧ b ≤ N ∧ Cut y.B (N - b) (cs.drop j) ∧ W + Wc g N (N - b) (cs.drop j) = Wc g N N cs)
        ⟨0, 0, none, rfl, .refl _, Nat.zero_le _, by rw [Nat.sub_zero]; exact hcut, by rw [Nat.sub_zero, Int.zero_add]; rfl⟩ (fun j σ G' _ ⟨_, _, _, _, sg, _⟩ => .inl (.inl (sg _ _ hp))) ?_ ?_⟩
      · rintro j z σ G' hj ⟨b, W, x4, rfl, sg, hb, hc, hw⟩
        rw [List.getElem?_map] at hj
        cases ej : cs[j]? with
        | none => rw [ej] at hj; cases hj
        | some l0 =>
          rw [ej] at hj
          have hz : nI l0 = z := Option.some.inj hj
          subst hz
          have hjl : j < cs.length := (List.getElem?_eq_some_iff.mp ej).1
          have hdr : cs.drop j = l0 :: cs.drop (j + 1) := by
            rw [List.drop_eq_getElem_cons hjl, (List.getElem?_eq_some_iff.mp ej).2]
          rw [hdr] at hc hw
          obtain ⟨c1, c2, c3, c4⟩ := hc
          have sA := s1.trans sg
          have hpl : ((ss.drop b).take (b + l0 - b)).length = l0 := by
            rw [List.length_take, List.length_drop]
            omega
          have hB16 := ok.b16
          refine ⟨_, rfl, _, rfl, a, dx, _, rfl, sA _ _ hd, by rfl, _, rfl, _, rfl, _, rfl, _, rfl, _, rfl, _, _, rfl, rfl, _, rfl, l, ss, b, b + l0, rfl, rfl, ?_, by omega, by omega, hl.same sA, fun a' G3 s3 h3 => ?_⟩
          · exact congrArg some (show (b : Int) + (l0 : Int) = ((b + l0 : Nat) : Int) by omega)
          refine ⟨a, a', y, _, rfl, hy.same (sA.trans s3), ok, h3, hs.part _ _, by omega, fun _ _ r G4 s4 hr4 => ?_, fun hne => absurd ⟨by omega, by omega⟩ hne⟩
          have hgw : (Bw y ((ss.drop b).take (b + l0 - b))).1 = g b l0 := by
            rw [← hg]
            unfold gW
            rw [show b + l0 - b = l0 by omega]
          refine ⟨r, _, 0, _, rfl, rfl, .inl (.inl hr4), by rfl, _, _, rfl, rfl, ?_⟩
          refine ⟨_, rfl, _, rfl, _, _, rfl, rfl, ?_⟩
          refine ⟨b + l0, W + g b l0, some (nI l0), ?_, sg.trans (s3.trans s4), by omega, by rw [show N - (b + l0) = N - b - l0 by omega]; exact c4, ?_⟩
          · rw [hgw]
            have e : (b : Int) + (l0 : Int) = ((b + l0 : Nat) : Int) := by omega
            exact congrArg (fun z => [some (V.ref a), some (.ref l), some (.int (W + g b l0)), some (V.int z), some (nI l0)]) e
          · rw [← hw]
            show _ = W + (g (N - (N - b)) l0 + Wc g N (N - b - l0) (cs.drop (j + 1)))
            rw [show N - (N - b) = b by omega, show N - (b + l0) = N - b - l0 by omega]
            omega
      · rintro σ G' ⟨b, W, x4, rfl, sg, hb, hc, hw⟩
        rw [List.length_map, List.drop_length] at hw
        have e : W = Wc g N N cs := by
          rw [← hw]
          show W = W + 0
          omega
        subst e
        exact ⟨_, _, rfl, s1.trans sg⟩
    · rintro σ G ⟨x3, x4, rfl, sg⟩
      exact ⟨_, rfl, k G sg⟩
end
end Wq
set_option Elab.async false
set_option linter.all false
set_option maxRecDepth 100000
set_option maxHeartbeats 4000000
namespace Wq
open PySem PySem.Spec PyProof.Rows L2
open PySem.W (dataLt alike alikeAll AlikeAll minD dataLt_all_yes dataLt_all_no dataLt_tuple dataLt_int keyToksAll)
theorem alike_ints : ∀ ns ms : List Int, alikeAll (ns.map PyData.int) (ms.map PyData.int) = true
  | [], ms => by cases ms <;> rfl
  | n :: ns, [] => rfl
  | n :: ns, m :: ms => by
    show (alike (.int n) (.int m) && alikeAll (ns.map PyData.int) (ms.map PyData.int)) = true
    rw [alike_ints ns ms]
    rfl
theorem toks_ints : ∀ ns ms : List Int, PyProof.Rows.lexLt itemOrd (keyToksAll (ns.map PyData.int)) (keyToksAll (ms.map PyData.int)) = HT.lexLt ns ms
  | [], [] => by decide +kernel
  | [], m :: ms => by
    show PyProof.Rows.lexLt itemOrd (.inl 0 :: []) (.inl 1 :: _) = true
    rw [PySem.W.lex_atom (by decide)]
    decide +kernel
  | n :: ns, [] => by
    show PyProof.Rows.lexLt itemOrd (.inl 1 :: _) (.inl 0 :: []) = false
    rw [PySem.W.lex_atom (by decide)]
    decide +kernel
  | n :: ns, m :: ms => by
    rw [HT.lexLt_cons]
    by_cases e : n = m
    · subst e
      rw [if_pos rfl, List.map_cons, List.map_cons, dataLt_all_yes (by rfl) (by show (n == n) = true; simp)]
      exact toks_ints ns ms
    · rw [if_neg e, List.map_cons, List.map_cons, dataLt_all_no (by rfl) (by show (n == m) = false; simpa using e)]
      exact dataLt_int n m
/-- a row as data -/
def rD (a b : Int) (ns : List Int) : PyData := .tuple [.int a, .int b, .tuple (ns.map .int)]
theorem dataLt_row (a b c d : Int) (ns ms : List Int) : dataLt (rD a b ns) (rD c d ms) = HT.lexLt (a :: b :: ns) (c :: d :: ms) := by
  unfold rD
  rw [dataLt_tuple, HT.lexLt_cons]
  by_cases e : a = c
  · subst e
    rw [if_pos rfl, dataLt_all_yes (by rfl) (by show (a == a) = true; simp), HT.lexLt_cons]
    by_cases e : b = d
    · subst e
      rw [if_pos rfl, dataLt_all_yes (by rfl) (by show (b == b) = true; simp)]
      have ha : alike (.tuple (ns.map .int)) (.tuple (ms.map .int)) = true := alike_ints ns ms
      cases ev : PyData.eqv (.tuple (ns.map .int)) (.tuple (ms.map .int)) with
      | false =>
        rw [dataLt_all_no ha ev, dataLt_tuple]
        exact toks_ints ns ms
      | true =>
        rw [dataLt_all_yes ha ev, ← toks_ints]
        have h2 := (PySem.W.toks_eqv _ _ ha).1 ev
        have h3 : keyToksAll (ns.map PyData.int) = keyToksAll (ms.map PyData.int) := h2
        rw [h3, toks_ints, lx_irr]
        decide +kernel
    · rw [if_neg e, dataLt_all_no (by rfl) (by show (b == d) = false; simpa using e)]
      exact dataLt_int b d
  · rw [if_neg e, dataLt_all_no (by rfl) (by show (a == c) = false; simpa using e)]
    exact dataLt_int a c
theorem alike_row (a b c d : Int) (ns ms : List Int) : alike (rD a b ns) (rD c d ms) = true := by
  show (alike (.int a) (.int c) && (alike (.int b) (.int d) && (alike (.tuple (ns.map .int)) (.tuple (ms.map .int)) && true))) = true
  have ha : alike (.tuple (ns.map .int)) (.tuple (ms.map .int)) = true := alike_ints ns ms
  rw [ha]
  rfl
section
variable {X : Cx}
def rLtD (K : PySem.W.Frag) : R2 := fun x y H Q => ∃ d e, Dp K H x d ∧ Dp K H y e ∧ alike d e = true ∧ d ≠ .none ∧ d.depth ≤ 60 ∧ Q (.bl (dataLt d e)) H
theorem op_ltD (hu : X.A.units + 64 < cLine) : OpR X (compareOp .Lt) (rLtD X.K) := by
  intro pins s σ H x y v u Q I rx ry h
  obtain ⟨d, e, hd, he, ha, hn, hz, q⟩ := h
  obtain ⟨as, r1⟩ := Dp.reads I d x v hd rx
  obtain ⟨bs, r2⟩ := Dp.reads I e y u he ry
  have hm := Nat.min_le_left d.depth e.depth
  exact PySem.W.rcLt_alike d e X.A s v u as bs r1 r2 ha hn (by omega) X.prog X.w _ _ ⟨.bl _, H, I, rfl, q⟩
def rMinD (K : PySem.W.Frag) : List V → Hp → VK → Prop := fun vs H Q => ∃ (a : Addr) (xs : List V) (d : PyData) (ds : List PyData), vs = [.ref a] ∧ SqL K H a xs ∧ DpAll K H xs (d :: ds) ∧ AlikeAll (d :: ds) ∧ PyData.depthAll (d :: ds) ≤ 60 ∧
  ∀ (i : Nat) (v : V), xs[i]? = some v → (d :: ds)[i]? = some (minD d ds) → Q v H
theorem Vals.back : ∀ {xs : List V} {us : List Value} {i : Nat} {u : Value}, Vals xs us → us[i]? = some u → ∃ x, xs[i]? = some x ∧ RelV x u
  | _, _, _, _, .nil, e => by simp at e
  | _, _, 0, _, .cons r _, e => by simp at e; subst e; exact ⟨_, rfl, r⟩
  | _, _, i + 1, u, .cons _ t, e => by
    obtain ⟨x, h1, h2⟩ := Vals.back t (by simpa using e)
    exact ⟨x, by simpa using h1, h2⟩
theorem minD_mem : ∀ (x : PyData) (xs : List PyData), minD x xs ∈ x :: xs := by
  intro x xs
  unfold minD
  induction xs generalizing x with
  | nil => exact List.mem_cons_self
  | cons y ys ih =>
    rw [List.foldl_cons]
    split
    · exact List.mem_cons_of_mem _ (ih y)
    · rcases List.mem_cons.mp (ih x) with h | h
      · rw [h]; exact List.mem_cons_self
      · exact List.mem_cons_of_mem _ (List.mem_cons_of_mem _ h)
theorem cr_minD (hc : X.calm = true) (hu : X.A.units + 64 < cLine) : CallR X (.builtin "min") (rMinD X.K) := by
  intro pins s σ H vs us Q I r h
  obtain ⟨a, xs, d, ds, rfl, hs, hd, ha, hz, q⟩ := h
  obtain ⟨its, rv, hl, _⟩ := I.list hs
  rw [Vals.ref1 r]
  obtain ⟨as, hr⟩ := Dp.readsAll I (d :: ds) xs its hd rv
  refine PySem.W.min_list_data (I.ok.hd hc) hl.isList hr ha (by omega) fun i v h' tk bs hv hR hk => ?_
  have hv2 : its[i]? = some v := by simpa using hv
  obtain ⟨x, hx, rx⟩ := Vals.back rv hv2
  obtain ⟨bs2, r2, hi, m2, _⟩ := PySem.W.readsAll_at hr i v hv2
  have e : (d :: ds).getD i .none = minD d ds := PySem.W.alike_unique _ _ v bs2 bs (ha.1 _ m2 _ (minD_mem d ds)) (PySem.W.reads_keeps hk r2) hR
  have e2 : (d :: ds)[i]? = some (minD d ds) := by
    rw [← e]
    simp [List.getD, List.getElem?_eq_getElem hi]
  exact ⟨x, H, I.kept hk, rx, q i x hx e2⟩
end
end Wq
set_option Elab.async false
set_option linter.all false
set_option maxRecDepth 100000
set_option maxHeartbeats 4000000
namespace Wq
open PySem PySem.Spec PyProof.Rows L2
open PySem.W (dataLt alike alikeAll AlikeAll minD)
def gL (y : Ly) (ws : List Int) (b len : Nat) : Int := (Wt y (desc ((ws.drop b).take len))).1
theorem gL_map (y : Ly) (ss : List Int) : gL y (ss.map wd) = gW y ss := by
  funext b len
  unfold gL gW Bw
  rw [List.map_take, List.map_drop]
def CsL (y : Ly) (ws : List Int) : List Nat := if y.fr = true then (De (gL y ws) ws.length y.B ws.length).2.2 else Pc y.B ws.length
theorem CsL_map (y : Ly) (ss : List Int) : CsL y (ss.map wd) = Cs y ss := by
  unfold CsL Cs Fc
  rw [gL_map, List.length_map]
/-- a row of the law -/
def rowOf (e : En) : PyData := rD e.1 e.2.1 (ngs e.2.2)
def LEn (G : Hp) (t : Addr) (e : En) : Prop := ∃ tc, G t = some (.tup [.int e.1, nI e.2.1, .ref tc]) ∧ G tc = some (.tup ((ngs e.2.2).map V.int))
theorem LEn.same {G G' : Hp} {t : Addr} {e : En} (h : LEn G t e) (s : Same G G') : LEn G' t e := by
  obtain ⟨tc, h1, h2⟩ := h
  exact ⟨tc, s _ _ h1, s _ _ h2⟩
theorem dp_ints {K : PySem.W.Frag} {H : Hp} (ns : List Int) : DpAll K H (ns.map V.int) (ns.map .int) := by
  induction ns with
  | nil => exact .nil
  | cons n ns ih => exact .cons (.int n) ih
theorem LEn.dp {K : PySem.W.Frag} {G : Hp} {t : Addr} {e : En} (h : LEn G t e) : Dp K G (.ref t) (rowOf e) := by
  obtain ⟨tc, h1, h2⟩ := h
  exact .tup (.inl (.inl h1)) (.cons (.int _) (.cons (.int _) (.cons (.tup (.inl (.inl h2)) (dp_ints _)) .nil)))
/-- comparing whole rows is comparing their keys -/
theorem lx_ek {e p : En} {l l' : Nat} {r r' : List Nat} (h1 : e.2.2 = l :: r) (h2 : p.2.2 = l' :: r') (hne : l ≠ l') : dataLt (rowOf e) (rowOf p) = HT.lexLt (ek e) (ek p) := by
  unfold rowOf ek
  rw [dataLt_row, h1, h2]
  simp only [ngs, List.map_cons, List.headD_cons]
  rw [HT.lexLt_cons, HT.lexLt_cons, HT.lexLt_cons, HT.lexLt_cons, HT.lexLt_cons, HT.lexLt_cons]
  have : ¬ -(l : Int) = -(l' : Int) := by omega
  rw [if_neg this, if_neg this]
theorem eN_cut (g : Nat → Nat → Int) (n : Nat) (T : List En) (r len : Nat) : ∃ p, (eN g n T r len).2.2 = len :: p := ⟨_, rfl⟩
/-- the least row is that of the best entry -/
theorem minD_rows (g : Nat → Nat → Int) (n : Nat) (T : List En) (r : Nat) : ∀ (k : Nat) (e : En), bsE g n T r (k + 1) = some e → minD (rowOf (eN g n T r 1)) ((List.range k).map fun i => rowOf (eN g n T r (i + 2))) = rowOf e
  | 0, e, h => by
    have : eN g n T r 1 = e := Option.some.inj h
    rw [← this]
    rfl
  | k + 1, e, h => by
    obtain ⟨p, hp⟩ := bsE_some g n T r k
    have ih := minD_rows g n T r k p hp
    rw [List.range_succ, List.map_append]
    unfold minD at ih ⊢
    rw [List.foldl_append, ih]
    rw [bsE_succ, hp] at h
    obtain ⟨⟨i, hi, ep⟩, _⟩ := bsE_spec g n T r (k + 1) p hp
    obtain ⟨q1, hq1⟩ := eN_cut g n T r (k + 2)
    obtain ⟨q2, hq2⟩ := eN_cut g n T r (i + 1)
    have hl := lx_ek (e := eN g n T r (k + 2)) (p := p) hq1 (by rw [ep]; exact hq2) (by omega)
    unfold pickE at h
    show (if dataLt (rowOf (eN g n T r (k + 2))) (rowOf p) = true then rowOf (eN g n T r (k + 2)) else rowOf p) = rowOf e
    rw [hl]
    split at h
    · rename_i hh; cases hh
    · rename_i p' hh
      have : p = p' := Option.some.inj hh
      subst this
      by_cases hc : HT.lexLt (ek (eN g n T r (k + 2))) (ek p) = true
      · rw [if_pos hc] at h ⊢
        rw [← Option.some.inj h]
      · rw [if_neg hc] at h ⊢
        rw [← Option.some.inj h]
def LBs (G : Hp) (p : Addr) (T : List En) : Prop := ∃ ts : List Addr, G p = some (.lst (ts.map V.ref)) ∧ ts.length = T.length ∧ ∀ (k : Nat) (e : En), T[k]? = some e → ∃ t, ts[T.length - 1 - k]? = some t ∧ LEn G t e
theorem LBs.same {G G' : Hp} {p : Addr} {T : List En} (h : LBs G p T) (s : Same G G') : LBs G' p T := by
  obtain ⟨ts, h1, h2, h3⟩ := h
  exact ⟨ts, s _ _ h1, h2, fun k e hk => (h3 k e hk).imp fun t ⟨a, b⟩ => ⟨a, b.same s⟩⟩
/-- rows that were made so far -/
def LRs (G : Hp) (p : Addr) (f : Nat → En) (j : Nat) : Prop := ∃ rs : List Addr, G p = some (.lst (rs.map V.ref)) ∧ rs.length = j ∧ ∀ k, k < j → ∃ t, rs[k]? = some t ∧ LEn G t (f k)
theorem LRs.same {G G' : Hp} {p : Addr} {f : Nat → En} {j : Nat} (h : LRs G p f j) (s : Same G G') : LRs G' p f j := by
  obtain ⟨ts, h1, h2, h3⟩ := h
  exact ⟨ts, s _ _ h1, h2, fun k hk => (h3 k hk).imp fun t ⟨a, b⟩ => ⟨a, b.same s⟩⟩
theorem LEn.put {G : Hp} {p t : Addr} {e : En} {xs ys : List V} (h : LEn G t e) (hp : G p = some (.lst xs)) : LEn (upd G p (.lst ys)) t e := by
  obtain ⟨tc, h1, h2⟩ := h
  exact ⟨tc, by rw [upd_ne (ne_of h1 hp (fun z => nomatch z))]; exact h1, by rw [upd_ne (ne_of h2 hp (fun z => nomatch z))]; exact h2⟩
theorem LRs.push {G : Hp} {p t : Addr} {f : Nat → En} {j : Nat} (h : LRs G p f j) (ht : LEn G t (f j)) : ∃ xs, G p = some (.lst xs) ∧ xs.length = j ∧ LRs (upd G p (.lst (xs ++ [.ref t]))) p f (j + 1) := by
  obtain ⟨rs, h1, h2, h3⟩ := h
  refine ⟨_, h1, by rw [List.length_map]; exact h2, rs ++ [t], by rw [upd_same, List.map_append]; rfl, by rw [List.length_append, h2]; rfl, fun k hk => ?_⟩
  by_cases hl : k < j
  · obtain ⟨t', a, b⟩ := h3 k hl
    exact ⟨t', by rw [List.getElem?_append_left (by omega)]; exact a, b.put h1⟩
  · have hz : k = j := by omega
    subst hz
    exact ⟨t, by rw [List.getElem?_append_right (by omega), show k - rs.length = 0 by omega]; rfl, ht.put h1⟩
theorem alike_rows (xs : List En) : AlikeAll (xs.map rowOf) := by
  refine ⟨fun x hx y hy => ?_, fun x hx => ?_⟩
  · obtain ⟨a, _, rfl⟩ := List.mem_map.mp hx
    obtain ⟨b, _, rfl⟩ := List.mem_map.mp hy
    exact alike_row _ _ _ _ _ _
  · obtain ⟨a, _, rfl⟩ := List.mem_map.mp hx
    intro z
    cases z
theorem depth_ints (ns : List Int) : PyData.depthAll (ns.map .int) = 0 := by
  induction ns with
  | nil => rfl
  | cons n ns ih =>
    show max 0 (PyData.depthAll (ns.map .int)) = 0
    rw [ih]
    rfl
theorem depth_row (e : En) : (rowOf e).depth = 2 := by
  show max 0 (max 0 (max (PyData.depthAll ((ngs e.2.2).map .int) + 1) 0)) + 1 = 2
  rw [depth_ints]
  rfl
theorem depth_rows : ∀ xs : List En, PyData.depthAll (xs.map rowOf) ≤ 2
  | [] => by show 0 ≤ 2; decide
  | x :: xs => by
    show max (rowOf x).depth (PyData.depthAll (xs.map rowOf)) ≤ 2
    have := depth_rows xs
    have := depth_row x
    omega
theorem LRs.dp {K : PySem.W.Frag} {G : Hp} : ∀ {f : Nat → En} {rs : List Addr} {j : Nat}, rs.length = j → (∀ k, k < j → ∃ t, rs[k]? = some t ∧ LEn G t (f k)) → DpAll K G (rs.map V.ref) ((List.range j).map fun k => rowOf (f k))
  | f, [], j, h, _ => by
    have : j = 0 := by simpa using h.symm
    subst this
    exact .nil
  | f, t :: rs, j, h, h3 => by
    obtain ⟨j', rfl⟩ : ∃ j', j = j' + 1 := ⟨j - 1, by simp at h; omega⟩
    simp only [List.range_succ_eq_map, List.map_cons, List.map_map]
    obtain ⟨t0, e0, h0⟩ := h3 0 (by omega)
    have : t = t0 := by simpa using e0
    subst this
    exact .cons h0.dp (LRs.dp (f := fun k => f (k + 1)) (by simpa using h) fun k hk => by
      obtain ⟨u, a, b⟩ := h3 (k + 1) (by omega)
      exact ⟨u, by simpa using a, b⟩)
end Wq
set_option Elab.async false
set_option linter.all false
set_option maxRecDepth 100000
set_option maxHeartbeats 4000000
namespace Wq
open PySem PySem.Spec PyProof.Rows L2
open PySem.W (dataLt alike alikeAll AlikeAll minD)
def chkP (N B : Nat) : Bool := Builtin.Range.small 0 (N : Int) (B : Int) && decide (Builtin.Range.rangeSize 0 (N : Int) (B : Int) = (((Pc B N).length : Nat) : Int)) && (List.range (Pc B N).length).all (fun i => decide ((Pc B N)[i]? = some (min B (N - i * B))) && decide (i * B < N))
theorem chkP_all : (List.range 41).all (fun N => (List.range 16).all fun B => chkP N (B + 1)) = true := by decide +kernel
theorem Pc_rg {N B : Nat} (hN : N ≤ 40) (h1 : 1 ≤ B) (h2 : B ≤ 16) : RgC 0 (N : Int) (B : Int) (Pc B N).length ∧ ∀ i, i < (Pc B N).length → (Pc B N)[i]? = some (min B (N - i * B)) ∧ i * B < N := by
  have e := List.all_eq_true.mp (List.all_eq_true.mp chkP_all N (List.mem_range.mpr (by omega))) (B - 1) (List.mem_range.mpr (by omega))
  rw [show B - 1 + 1 = B by omega] at e
  unfold chkP at e
  simp only [Bool.and_eq_true, decide_eq_true_eq, List.all_eq_true, List.mem_range] at e
  obtain ⟨⟨e1, e2⟩, e3⟩ := e
  exact ⟨⟨by omega, by omega, e1, e2⟩, e3⟩
theorem getN {l : List Nat} {i : Nat} : (l.map nI)[i]? = (l[i]?).map nI := List.getElem?_map ..
theorem map_int_inj {a b : List Int} (h : a.map PyData.int = b.map PyData.int) : a = b := List.map_inj_right (f := PyData.int) (fun _ _ h => PyData.int.inj h) |>.mp h
theorem rowOf_inj {e p : En} (h : rowOf e = rowOf p) : e = p := by
  obtain ⟨a, b, c⟩ := e
  obtain ⟨a', b', c'⟩ := p
  unfold rowOf rD at h
  simp only [PyData.tuple.injEq, List.cons.injEq, PyData.int.injEq, and_true] at h
  obtain ⟨h1, h2, h3⟩ := h
  have h4 := ngs_inj (map_int_inj h3)
  have h5 : b = b' := by omega
  rw [h1, h5, h4]
theorem LBs.cons {G : Hp} {p' t : Addr} {T : List En} {e : En} {ts : List Addr} (h1 : ts.length = T.length) (h2 : ∀ (k : Nat) (e : En), T[k]? = some e → ∃ t, ts[T.length - 1 - k]? = some t ∧ LEn G t e) (ht : LEn G t e) (hp : G p' = some (.lst (V.ref t :: ts.map V.ref))) : LBs G p' (T ++ [e]) := by
  refine ⟨t :: ts, hp, by simp [h1], fun k e' hk => ?_⟩
  have hk2 := (List.getElem?_eq_some_iff.mp hk).1
  simp at hk2
  by_cases hl : k < T.length
  · rw [List.getElem?_append_left hl] at hk
    obtain ⟨u, a, b⟩ := h2 k e' hk
    refine ⟨u, ?_, b⟩
    have : (T ++ [e]).length - 1 - k = (T.length - 1 - k) + 1 := by simp; omega
    rw [this, List.getElem?_cons_succ]
    exact a
  · have hz : k = T.length := by omega
    subst hz
    rw [List.getElem?_append_right (Nat.le_refl _), Nat.sub_self] at hk
    have he : e = e' := by simpa using hk
    subst he
    refine ⟨t, ?_, ht⟩
    have : (T ++ [e]).length - 1 - T.length = 0 := by simp
    rw [this]
    rfl
abbrev sLC : Stmt := top 31
abbrev NLC : List Str := ["_law_parts_here", "_law_widths", "_law_many", "_law_block", "_law_behind", "_law_at", "_law_rows", "_law_long", "_law_weight_here", "_law_blocks", "_law_cut"]
theorem scLC : FnScope NLC ["_law_parts_here", "_law_widths"] (defScope sLC) := ⟨rfl, rfl, rfl, by decide +kernel, rfl, by decide +kernel, by decide +kernel⟩
def spLC (K : PySem.W.Frag) : Sp := fun vs H Q _ => ∃ (q l : Addr) (y : Ly) (hd : Int) (ws : List Int), vs = [.ref q, .ref l] ∧ SqL K H q (paV y hd) ∧ HdOk y hd ∧ y.Ok ∧ SqL K H l (ws.map V.int) ∧ Wd ws ∧ ws.length ≤ 40 ∧
  ∀ p H', Same H H' → H' p = some (.tup ((CsL y ws).map nI)) → Q (.ref p) H'
section
variable {P : Program} {w : World} {K : PySem.W.Frag} {mg : Str → Option Value} {base : Heap} {C CE : Addr}
theorem ok_LC (D : DefAt K mg "_law_cuts" sLC) (T : Txt K mg) (CW : Cl P w K mg base 2 "_law_weight" (spLW K)) : Cl P w K mg base 3 "_law_cuts" (spLC K) := by
  refine cl_of D scLC (fun vs H Q E h => ?_) (fun _ _ _ _ _ _ us hl => match us, hl with | [_, _], _ => rfl) (fun f cdv A1 outer s H vs Q E hr h => ?_)
  · obtain ⟨q, l, y, hd, ws, rfl, _⟩ := h
    rfl
  · obtain ⟨q, l, y, hd, ws, rfl, hq, hh, ok, hl, hw, hn, k⟩ := h
    have hL : (ws.map V.int).length = ws.length := List.length_map ..
    refine ⟨_, C8.pss_cut (ps_asg (pe_tup (pa_cons (pe_callB call_len_seq (by rfl) (by exact T.len) PySem.boot_len (pa_cons (pv 1) pa_nil)) (pa_cons (pe_ix ix_list (pv 0) pe_int (fun _ _ => rfl)) pa_nil))) (pg_tup (by rfl) (pgs_cons (pg_name (i := 2) scLC.nd rfl (Or.inr rfl)) (pgs_cons (pg_name (i := 3) scLC.nd rfl (Or.inr rfl)) pgs_nil))))
(pss_cons (ps_if (pt_not (pt_val (pe_ix ix_list (pv 0) pe_int (fun _ _ => rfl))))
(pss_one (ps_ret (pe_callTy call_tuple_of (by rfl) (by exact T.tuple) (by decide +kernel) (pa_cons (pe_lc (own := [("_law_at", 5)]) (g := gName 5) (tt := tYes) (by rfl) scLC.nd (pi_range3 rfl (by exact T.range) (pa_cons pe_int (pa_cons (pv 2) (pa_cons (pv 3) pa_nil)))) (blkOk_by (own := [("_law_at", 5)]) (N := NLC) (sc := defScope sLC) (by decide +kernel)) (fun _ _ _ _ _ => (pg_name (i := 5) scLC.nd rfl (Or.inl rfl))) (fun _ _ _ _ _ => pts_nil) (fun _ _ _ _ _ => (pe_callB (call_min2 rfl) (by rfl) (by exact T.min) (by decide +kernel) (pa_cons (pv 3) (pa_cons (pe_op op_sub (pv 2) (pv 5)) pa_nil))))) pa_nil))))
pss_nil)
(pss_cons (ps_set (i := 4) scLC.nd rfl (Or.inl rfl) (pe_lst (pa_cons (pe_tup (pa_cons pe_int (pa_cons pe_int (pa_cons (pe_tup pa_nil) pa_nil)))) pa_nil)))
(C8.pss_cut (ps_for PassesOwn.never rfl (pi_range3 rfl (by exact T.range) (pa_cons (pe_op op_sub (pv 2) pe_int) (pa_cons (pe_un un_neg pe_int) (pa_cons (pe_un un_neg pe_int) pa_nil)))) (pg_name (i := 5) scLC.nd rfl (Or.inl rfl))
(pss_cons (ps_set (i := 6) scLC.nd rfl (Or.inl rfl) (pe_lst pa_nil))
(C8.pss_cut (ps_for PassesOwn.never rfl (pi_range2 rfl (by exact T.range) (pa_cons pe_int (pa_cons (pe_op op_add (pe_callB (call_min2 rfl) (by rfl) (by exact T.min) (by decide +kernel) (pa_cons (pv 3) (pa_cons (pe_op op_sub (pv 2) (pv 5)) pa_nil))) pe_int) pa_nil))) (pg_name (i := 7) scLC.nd rfl (Or.inl rfl))
(pss_cons (ps_asg (pe_ix ix_list (pv 4) (pe_op op_sub (pv 7) pe_int) (fun _ _ => rfl)) (pg_tup (by rfl) (pgs_cons (pg_name (i := 8) scLC.nd rfl (Or.inl rfl)) (pgs_cons (pg_name (i := 9) scLC.nd rfl (Or.inl rfl)) (pgs_cons (pg_name (i := 10) scLC.nd rfl (Or.inl rfl)) pgs_nil)))))
(pss_one (ps_expr (pe_bm PySem.F.plainAttrs_list PySem.F.slot_list_append PySem.F.type_list_append mt_append (pv 6) (pa_cons (pe_tup (pa_cons (pe_op op_add (pv 8) (pe_ix ix_tup (pe_cl CW hr (by decide) rfl (pa_cons (pv 0) (pa_cons (pe_slice sl_list (pv 1) (po_some (pv 5)) (po_some (pe_op op_add (pv 5) (pv 7)))) pa_nil))) pe_int (fun _ _ => rfl))) (pa_cons (pe_op op_add (pv 9) pe_int) (pa_cons (pe_imp (t' := fun σ G Q => ∃ (j : Nat) (cut : List Nat) (tc : Addr) (x0 x1 x2 x3 x4 x5 x6 x8 x9 : Option V), σ = [x0, x1, x2, x3, x4, x5, x6, some (nI j), x8, x9, some (.ref tc)] ∧ G tc = some (.tup ((ngs cut).map V.int)) ∧ cut.length ≤ 2000 ∧ ∀ pc G', Same G G' → G' pc = some (.tup ((ngs (j :: cut)).map V.int)) → Q (.ref pc) G') (pe_op op_catA (pe_tup (pa_cons (pe_un un_neg (pv 7)) pa_nil)) (pv 10)) (by
      rintro σ G Q ⟨j, cut, tc, x0, x1, x2, x3, x4, x5, x6, x8, x9, rfl, hc, hcl, kq⟩
      refine ⟨_, rfl, _, rfl, by show 1 ≤ sizeLine; decide, fun pt hpt => ?_⟩
      have st := sNew (o := .tup [.int (-(j : Int))]) hpt
      refine ⟨_, rfl, pt, tc, _, _, rfl, rfl, .inl (.inl upd_same), .inl (.inl (st _ _ hc)), ?_, fun z => (nomatch z), fun _ z => ?_, fun _ z p hp => ?_⟩
      · rw [List.length_map, ngs, List.length_map, sizeLine_eq]
        show 1 + _ ≤ _
        omega
      · have : cut = [] := by cases cut with
          | nil => rfl
          | cons a b => cases z
        subst this
        exact kq pt _ st upd_same
      · exact kq p _ (st.trans (sNew hp)) upd_same)) pa_nil)))) pa_nil))))))
(pss_one (ps_set (i := 4) scLC.nd rfl (Or.inl rfl) (pe_op op_cat (pe_lst (pa_cons (pe_callB (cr_minD rfl (hu64 hr)) (by rfl) (by exact T.min) (by decide +kernel) (pa_cons (pv 6) pa_nil)) pa_nil)) (pv 4)))))))
(pss_one (ps_ret (pe_callTy call_tuple_of (by rfl) (by exact T.tuple) (by decide +kernel) (pa_cons (pe_lc (own := [("_law_long", 7)]) (g := gName 7) (tt := tYes) (by rfl) scLC.nd (pi_tup (pe_ix ix_tup (pe_ix ix_list (pv 4) pe_int (fun _ _ => rfl)) pe_int (fun _ _ => rfl))) (blkOk_by (own := [("_law_long", 7)]) (N := NLC) (sc := defScope sLC) (by decide +kernel)) (fun _ _ _ _ _ => (pg_name (i := 7) scLC.nd rfl (Or.inl rfl))) (fun _ _ _ _ _ => pts_nil) (fun _ _ _ _ _ => (pe_un un_neg (pv 7)))) pa_nil))))))), ?_⟩
    have hP := Pc_rg hn ok.b1 ok.b16
    have hB1 := ok.b1
    have hB16 := ok.b16
    have hC : (y.fr = true → CsL y ws = (De (gL y ws) ws.length y.B ws.length).2.2) ∧ (¬ y.fr = true → CsL y ws = Pc y.B ws.length) := ⟨fun h => by unfold CsL; rw [if_pos h], fun h => by unfold CsL; rw [if_neg h]⟩
    generalize hN : ws.length = N at *
    refine ⟨fun σ G => σ = [some (.ref q), some (.ref l), some (nI N), some (nI y.B), none, none, none, none, none, none, none] ∧ Same H G, ?_, ?_⟩
    · refine ⟨_, rfl, l, _, rfl, .inl hl, _, rfl, q, _, 1, _, rfl, rfl, hq, by rfl, by show 2 ≤ sizeLine; decide, fun p hp => ⟨p, _, rfl, .inl (.inl upd_same), rfl, _, _, rfl, _, _, rfl, rfl, ?_, sNew hp⟩⟩
      exact congrArg (fun z : Nat => [some (V.ref q), some (.ref l), some (nI z), some (nI y.B), none, none, none, none, none, none, none]) hL
    rintro σ G0 ⟨rfl, s0⟩
    refine ⟨_, rfl, q, _, 0, _, rfl, rfl, SqL_same hq s0, by rfl, y.fr, rfl, ?_⟩
    refine ite2 (fun hf => ?_) (fun hf => ?_)
    · have hf : ¬ y.fr = true := by simpa using hf
      rw [hC.2 hf] at k
      refine ⟨_, rfl, _, rfl, 0, (N : Int), (y.B : Int), _, rfl, hP.1, fun D hD => ?_⟩
      refine lc_it walk_rangeC (fun i G => Same G0 G ∧ G D = some (.lst (((Pc y.B N).take i).map nI))) ⟨sNew hD, upd_same⟩ (fun _ _ _ _ => trivial) ?_ ?_
      · rintro i x G G' hi ⟨sm, hD2⟩ ⟨rfl, rfl⟩
        obtain ⟨e1, e2⟩ := hP.2 i hi
        refine ⟨rfl, ?_⟩
        simp only [tYes, if_true]
        refine ⟨_, rfl, _, rfl, _, rfl, _, _, rfl, rfl, _, _, rfl, _, hD2, by rw [List.length_map, List.length_take, sizeLine_eq]; have := Cut_len (Pc_cut (n := N) hB1); omega, sPut sm hD, ?_⟩
        rw [upd_same, List.take_succ, e1, List.map_append]
        have e3 : (if (N : Int) - (0 + (i : Nat) * (y.B : Int)) < (y.B : Int) then (N : Int) - (0 + (i : Nat) * (y.B : Int)) else (y.B : Int)) = ((min y.B (N - i * y.B) : Nat) : Int) := by
          have e4 : (i : Int) * (y.B : Int) = ((i * y.B : Nat) : Int) := (Int.natCast_mul _ _).symm
          rw [e4]
          split <;> omega
        exact congrArg (fun z => some (HO.lst (((Pc y.B N).take i).map nI ++ [V.int z]))) e3
      · rintro G ⟨sm, hD2⟩
        rw [List.take_length] at hD2
        exact ⟨D, _, rfl, .inl ⟨.inl (.inl hD2), fun p hp => k p _ ((s0.trans sm).trans (sNew hp)) upd_same⟩⟩
    · have hf : y.fr = true := by simpa using hf
      rw [hC.1 hf] at k
      generalize hg : gL y ws = g at *
      refine ⟨by show 0 ≤ sizeLine; decide, fun t1 ht1 => ⟨by show 3 ≤ sizeLine; decide, fun t0 ht0 => ⟨by show 1 ≤ sizeLine; decide, fun p0 hp0 => ?_⟩⟩⟩
      have s1 := sNew (o := .tup []) ht1
      have s2 := sNew (o := .tup [.int 0, .int 0, .ref t1]) ht0
      have s3 := sNew (o := .lst [.ref t0]) hp0
      have sA := s0.trans (s1.trans (s2.trans s3))
      have b0 : LBs (upd (upd (upd G0 t1 (.tup [])) t0 (.tup [.int 0, .int 0, .ref t1])) p0 (.lst [.ref t0])) p0 (TbE g N y.B 0) := ⟨[t0], upd_same, rfl, fun i e he => by
        have hi : i = 0 := by
          have := (List.getElem?_eq_some_iff.mp he).1
          simp [TbE] at this
          exact this
        subst hi
        have he : ((0, 0, []) : En) = e := Option.some.inj he
        subst he
        exact ⟨t0, rfl, t1, s3 _ _ upd_same, s3 _ _ (s2 _ _ upd_same)⟩⟩
      refine ⟨fun σ G => ∃ (p : Addr) (x5 x6 x7 x8 x9 x10 : Option V), σ = [some (.ref q), some (.ref l), some (nI N), some (nI y.B), some (.ref p), x5, x6, x7, x8, x9, x10] ∧ Same H G ∧ LBs G p (TbE g N y.B N), ?_, ?_⟩
      · refine ⟨_, rfl, _, _, rfl, rfl, _, rfl, _, rfl, (N : Int) - 1, -1, -1, N, rfl, ?_, ?_⟩
        · have := RgC.neg (i := (N : Int) - 1) (j := -1) (by omega) (by omega) (by omega) (by omega)
          rwa [show ((N : Int) - 1 - -1).toNat = N by omega] at this
        refine for_down (fun i σ G => ∃ (p : Addr) (x5 x6 x7 x8 x9 x10 : Option V), σ = [some (.ref q), some (.ref l), some (nI N), some (nI y.B), some (.ref p), x5, x6, x7, x8, x9, x10] ∧ Same H G ∧ LBs G p (TbE g N y.B i)) ⟨p0, _, _, _, _, _, _, rfl, sA, b0⟩ ?_ ?_
        · rintro i σ G hi ⟨p, x5, x6, x7, x8, x9, x10, rfl, sm, hb⟩
          refine ⟨by show 0 ≤ sizeLine; decide, fun rp hrp => ?_⟩
          have sr := sNew (o := .lst []) hrp
          refine ⟨fun σ G' => ∃ x7 x8 x9 x10 : Option V, σ = [some (.ref q), some (.ref l), some (nI N), some (nI y.B), some (.ref p), some (nI (N - 1 - i)), some (.ref rp), x7, x8, x9, x10] ∧ Same G G' ∧ LRs G' rp (fun k => eN g N (TbE g N y.B i) (i + 1) (k + 1)) (min y.B (i + 1)), ?_, ?_⟩
          · have hm : (if (N : Int) - ((N - 1 - i : Nat) : Int) < (y.B : Int) then (N : Int) - ((N - 1 - i : Nat) : Int) else (y.B : Int)) + 1 = ((min y.B (i + 1) : Nat) : Int) + 1 := by
              split <;> omega
            refine ⟨_, rfl, _, rfl, _, rfl, _, _, rfl, rfl, _, _, rfl, _, _, rfl, rfl, 1, ((min y.B (i + 1) : Nat) : Int) + 1, congrArg (fun z => [V.int 1, V.int z]) hm, by omega, ?_⟩
            refine for_up (n := min y.B (i + 1)) (by omega) (fun j σ G' => ∃ x7 x8 x9 x10 : Option V, σ = [some (.ref q), some (.ref l), some (nI N), some (nI y.B), some (.ref p), some (nI (N - 1 - i)), some (.ref rp), x7, x8, x9, x10] ∧ Same G G' ∧ LRs G' rp (fun k => eN g N (TbE g N y.B i) (i + 1) (k + 1)) j)
              ⟨_, _, _, _, rfl, sr, [], upd_same, rfl, fun k hk => absurd hk (Nat.not_lt_zero k)⟩ ?_ ?_
            · rintro j σ G2 hj ⟨y7, y8, y9, y10, rfl, sm2, hR⟩
              obtain ⟨ts, hp, hlen, hts⟩ := hb.same sm2
              obtain ⟨t, ht, tc, hE1, hE2⟩ := hts _ _ (TbE_at g N y.B (r := i) (i := i - j) (by omega))
              rw [TbE_len] at ht
              refine ⟨_, rfl, _, rfl, _, _, rfl, rfl, p, _, _, .ref t, rfl, rfl, .inl (.inl hp), ?_, ?_⟩
              · have e : ((j + 1 : Nat) : Int) - 1 = ((i + 1 - 1 - (i - j) : Nat) : Int) := by omega
                refine (congrArg (fun z => atI (ts.map V.ref) z = some (V.ref t)) e).mpr (atI_nat ?_)
                rw [List.getElem?_map, ht]
                rfl
              refine ⟨t, _, rfl, .inl (.inl hE1), rfl, _, _, rfl, _, _, rfl, _, _, rfl, rfl, ?_⟩
              have smA := sm.trans sm2
              have hpl : ((ws.drop (N - 1 - i)).take (j + 1)).length = j + 1 := by
                rw [List.length_take, List.length_drop]
                omega
              have hcv : cutV (ws.map V.int) (some ((N - 1 - i : Nat) : Int)) (some (((N - 1 - i : Nat) : Int) + ((j + 1 : Nat) : Int))) = ((ws.drop (N - 1 - i)).take (j + 1)).map V.int := by
                rw [show ((N - 1 - i : Nat) : Int) + ((j + 1 : Nat) : Int) = ((N - 1 - i + (j + 1) : Nat) : Int) by omega, cut_mid (by omega) (by rw [hL]; omega), ← List.map_drop, ← List.map_take, show N - 1 - i + (j + 1) - (N - 1 - i) = j + 1 by omega]
              obtain ⟨rs, hr1, hr2, hr3⟩ := id hR
              obtain ⟨d1, d2, d3⟩ := De_cut g N y.B hB1 (i - j)
              have hcl := Cut_len d1
              refine ⟨_, rfl, .inl ⟨rfl, _, .inl (.inl hr1)⟩, _, rfl, _, rfl, _, rfl, _, rfl, _, rfl, _, rfl, _, rfl, _, _, rfl, rfl, _, rfl, l, _, rfl, SqL_same hl smA, fun pz hz => ?_⟩
              have sz := sNew (o := .lst (cutV (ws.map V.int) (some ((N - 1 - i : Nat) : Int)) (some (((N - 1 - i : Nat) : Int) + ((j + 1 : Nat) : Int))))) hz
              refine ⟨q, pz, y, hd, (ws.drop (N - 1 - i)).take (j + 1), rfl, SqL_same hq (smA.trans sz), hh, ok, .inl (.inl (by rw [← hcv]; exact upd_same)), fun w hw2 => hw w (List.mem_of_mem_drop (List.mem_of_mem_take hw2)), by omega, by omega, fun r G3 s3' hr3' => ?_⟩
              refine ⟨r, _, 0, _, rfl, rfl, .inl (.inl hr3'), by rfl, _, _, rfl, rfl, _, rfl, _, _, rfl, rfl, ?_⟩
              have sB := sz.trans s3'
              refine ⟨j + 1, (De g N y.B (i - j)).2.2, tc, _, _, _, _, _, _, _, _, _, rfl, sB _ _ hE2, by omega, fun pc G5 s5 hpc => ?_⟩
              refine ⟨by show 3 ≤ sizeLine; decide, fun o ho => ?_⟩
              have so := sNew (o := .tup [.int ((De g N y.B (i - j)).1 + (Wt y (desc ((ws.drop (N - 1 - i)).take (j + 1)))).1), .int (((De g N y.B (i - j)).2.1 : Int) + 1), .ref pc]) ho
              have sC := sB.trans (s5.trans so)
              have hgw : (Wt y (desc ((ws.drop (N - 1 - i)).take (j + 1)))).1 = g (N - (i + 1)) (j + 1) := by
                rw [← hg]
                unfold gL
                rw [show N - (i + 1) = N - 1 - i by omega]
              have hEn : LEn (upd G5 o (.tup [.int ((De g N y.B (i - j)).1 + (Wt y (desc ((ws.drop (N - 1 - i)).take (j + 1)))).1), .int (((De g N y.B (i - j)).2.1 : Int) + 1), .ref pc])) o (eN g N (TbE g N y.B i) (i + 1) (j + 1)) := by
                refine ⟨pc, ?_, ?_⟩
                · rw [upd_same, eN_De g N y.B (by omega), show i + 1 - (j + 1) = i - j by omega, hgw, Int.add_comm]
                  rfl
                · rw [eN_De g N y.B (by omega), show i + 1 - (j + 1) = i - j by omega]
                  exact so _ _ hpc
              obtain ⟨xs, hx1, hx2, hx3⟩ := (hR.same sC).push hEn
              refine ⟨rp, xs, .ref o, rfl, rfl, hx1, by rw [hx2, sizeLine_eq]; omega, _, _, _, _, rfl, sPut (sm2.trans sC) hrp, hx3⟩
            · rintro σ G2 ⟨y7, y8, y9, y10, rfl, sm2, hR⟩
              exact ⟨_, _, _, _, rfl, sm2, hR⟩
          · rintro σ G2 ⟨y7, y8, y9, y10, rfl, sm2, hR⟩
            have hb2 := hb.same sm2
            obtain ⟨m, hm⟩ : ∃ m, min y.B (i + 1) = m + 1 := ⟨min y.B (i + 1) - 1, by omega⟩
            rw [hm] at hR
            obtain ⟨e, he⟩ := bsE_some g N (TbE g N y.B i) (i + 1) m
            have hmin := minD_rows g N (TbE g N y.B i) (i + 1) m e he
            obtain ⟨rs, hr1, hr2, hr3⟩ := hR
            have hdp := LRs.dp (K := K) hr2 hr3
            have hrows : ((List.range (m + 1)).map fun k => rowOf (eN g N (TbE g N y.B i) (i + 1) (k + 1))) = rowOf (eN g N (TbE g N y.B i) (i + 1) 1) :: ((List.range m).map fun k => rowOf (eN g N (TbE g N y.B i) (i + 1) (k + 2))) := by
              simp only [List.range_succ_eq_map, List.map_cons, List.map_map]
              rfl
            have hal := alike_rows ((List.range (m + 1)).map fun k => eN g N (TbE g N y.B i) (i + 1) (k + 1))
            have hdep := depth_rows ((List.range (m + 1)).map fun k => eN g N (TbE g N y.B i) (i + 1) (k + 1))
            rw [List.map_map] at hal hdep
            have hcomp : (rowOf ∘ fun k => eN g N (TbE g N y.B i) (i + 1) (k + 1)) = fun k => rowOf (eN g N (TbE g N y.B i) (i + 1) (k + 1)) := rfl
            rw [hcomp, hrows] at hal hdep
            rw [hrows] at hdp
            refine ⟨_, rfl, rp, _, _, _, rfl, .inl (.inl hr1), hdp, hal, by omega, fun kk v hv hd2 => ?_⟩
            rw [← hrows, hmin] at hd2
            have hkm : kk < m + 1 := by
              have := (List.getElem?_eq_some_iff.mp hd2).1
              simpa using this
            have hE : rowOf (eN g N (TbE g N y.B i) (i + 1) (kk + 1)) = rowOf e := by
              rw [List.getElem?_map, List.getElem?_range hkm] at hd2
              exact Option.some.inj hd2
            have hE := rowOf_inj hE
            obtain ⟨t, ht, hLE⟩ := hr3 kk hkm
            have hvt : v = .ref t := by
              rw [List.getElem?_map, ht] at hv
              exact (Option.some.inj hv).symm
            subst hvt
            have hLE : LEn G2 t e := by rw [← hE]; exact hLE
            refine ⟨by show 1 ≤ sizeLine; decide, fun o1 ho1 => ?_⟩
            have so := sNew (o := .lst [.ref t]) ho1
            obtain ⟨ts, hp, hlen, hts⟩ := hb2.same so
            have hTl := TbE_len g N y.B i
            refine ⟨_, rfl, o1, p, _, _, rfl, rfl, upd_same, hp, by rw [List.length_map, hlen, hTl, sizeLine_eq]; show 1 + (i + 1) ≤ _; omega, fun p' hp' => ?_⟩
            have sp := sNew (o := .lst ([V.ref t] ++ ts.map V.ref)) hp'
            refine ⟨p', _, _, _, _, _, _, rfl, sm.trans (sm2.trans (so.trans sp)), ?_⟩
            rw [TbE, hm, he]
            exact LBs.cons hlen (fun k e' hk => (hts k e' hk).imp fun u ⟨a, b⟩ => ⟨a, b.same sp⟩) (hLE.same (so.trans sp)) upd_same
        · rintro σ G ⟨p, x5, x6, x7, x8, x9, x10, rfl, sm, hb⟩
          exact ⟨p, _, _, _, _, _, _, rfl, sm, hb⟩
      · rintro σ G ⟨p, x5, x6, x7, x8, x9, x10, rfl, sm, hb⟩
        obtain ⟨ts, hp, hlen, hts⟩ := hb
        obtain ⟨t, ht, tc, hE1, hE2⟩ := hts _ _ (TbE_at g N y.B (Nat.le_refl N))
        rw [TbE_len, show N + 1 - 1 - N = 0 by omega] at ht
        obtain ⟨d1, d2, d3⟩ := De_cut g N y.B hB1 N
        have hcl := Cut_len d1
        generalize (De g N y.B N).2.2 = cs at *
        refine ⟨_, rfl, p, _, 0, .ref t, rfl, rfl, .inl (.inl hp), atI_nat (j := 0) (by rw [List.getElem?_map, ht]; rfl), t, _, 2, _, rfl, rfl, .inl (.inl hE1), by rfl, tc, rfl, ⟨_, .inl (.inl hE2)⟩, fun D hD => ?_⟩
        refine lc_tup (K := K) (a := tc) (xs := (ngs cs).map V.int) (fun i G' => Same G G' ∧ G' D = some (.lst ((cs.take i).map nI))) ⟨sNew hD, upd_same⟩ (fun i G' _ ⟨sg, _⟩ => .inl (.inl (sg _ _ hE2))) ?_ ?_
        · rintro i z G' hi ⟨sg, hD2⟩
          unfold ngs at hi
          rw [List.map_map, List.getElem?_map] at hi
          cases ec : cs[i]? with
          | none => rw [ec] at hi; cases hi
          | some c0 =>
            rw [ec] at hi
            have hz : V.int (-(c0 : Int)) = z := Option.some.inj hi
            subst hz
            have hil := (List.getElem?_eq_some_iff.mp ec).1
            refine ⟨rfl, ?_⟩
            simp only [tYes, if_true]
            refine ⟨_, rfl, _, rfl, _, hD2, by rw [List.length_map, List.length_take, sizeLine_eq]; omega, sPut sg hD, ?_⟩
            rw [upd_same, List.take_succ, ec, List.map_append]
            exact congrArg (fun z => some (HO.lst ((cs.take i).map nI ++ [V.int z]))) (Int.neg_neg (c0 : Int))
        · rintro G' ⟨sg, hD2⟩
          have hll : ((ngs cs).map V.int).length = cs.length := by unfold ngs; simp
          rw [hll, List.take_length] at hD2
          exact ⟨D, _, rfl, .inl ⟨.inl (.inl hD2), fun p hp => k p _ ((sm.trans sg).trans (sNew hp)) upd_same⟩⟩
end
end Wq
set_option Elab.async false
set_option linter.all false
set_option maxRecDepth 100000
set_option maxHeartbeats 4000000
namespace Wq
open PySem PySem.Spec PyProof.Rows L2
/-! all cuts of a row, made from their ends -/
theorem Cut_iff {B : Nat} : ∀ (p : List Nat) (r : Nat), Cut B r p ↔ (p.sum = r ∧ ∀ l ∈ p, 1 ≤ l ∧ l ≤ B)
  | [], r => by
    show r = 0 ↔ _
    simp
    omega
  | l :: p, r => by
    show (1 ≤ l ∧ l ≤ B ∧ l ≤ r ∧ Cut B (r - l) p) ↔ _
    rw [Cut_iff p (r - l), List.sum_cons]
    constructor
    · rintro ⟨h1, h2, h3, h4, h5⟩
      refine ⟨by omega, fun x hx => ?_⟩
      rcases List.mem_cons.mp hx with e | e
      · rw [e]; exact ⟨h1, h2⟩
      · exact h5 x e
    · rintro ⟨h1, h2⟩
      obtain ⟨a, b⟩ := h2 l List.mem_cons_self
      exact ⟨a, b, by omega, by omega, fun x hx => h2 x (List.mem_cons_of_mem _ hx)⟩
theorem Cut_snoc {B r l : Nat} {p : List Nat} (h1 : 1 ≤ l) (h2 : l ≤ B) (h : Cut B r p) : Cut B (r + l) (p ++ [l]) := by
  rw [Cut_iff] at h ⊢
  refine ⟨by rw [List.sum_append, h.1]; simp, fun x hx => ?_⟩
  rcases List.mem_append.mp hx with e | e
  · exact h.2 x e
  · rw [List.mem_singleton.mp e]; exact ⟨h1, h2⟩
/-- from the cuts of fewer steps -/
def acF (T : List (List (List Nat))) (m k : Nat) : List (List Nat) := (List.range k).flatMap fun i => (T.getD (m - (i + 1)) []).map fun c => c ++ [i + 1]
def acT (B : Nat) : Nat → List (List (List Nat))
  | 0 => [[[]]]
  | m + 1 => acT B m ++ [acF (acT B m) (m + 1) (min B (m + 1))]
theorem acF_succ (T : List (List (List Nat))) (m k : Nat) : acF T m (k + 1) = acF T m k ++ (T.getD (m - (k + 1)) []).map fun c => c ++ [k + 1] := by
  unfold acF
  rw [List.range_succ, List.flatMap_append]
  simp
theorem acT_len (B m : Nat) : (acT B m).length = m + 1 := by
  induction m with
  | zero => rfl
  | succ m ih => rw [acT, List.length_append, ih]; rfl
def ac (B m : Nat) : List (List Nat) := (acT B m).getD m []
theorem acT_at (B : Nat) {m i : Nat} (h : i ≤ m) : (acT B m)[i]? = some (ac B i) := by
  induction m with
  | zero =>
    have : i = 0 := by omega
    subst this
    rfl
  | succ m ih =>
    by_cases h1 : i ≤ m
    · rw [acT, List.getElem?_append_left (by rw [acT_len]; omega)]
      exact ih h1
    · have : i = m + 1 := by omega
      subst this
      unfold ac
      rw [acT, List.getElem?_append_right (by rw [acT_len]; omega), acT_len]
      simp [List.getD, List.getElem?_append_right, acT_len]
theorem acT_getD (B : Nat) {m i : Nat} (h : i ≤ m) : (acT B m).getD i [] = ac B i := by
  simp [List.getD, acT_at B h]
theorem ac_succ (B m : Nat) : ac B (m + 1) = acF (acT B m) (m + 1) (min B (m + 1)) := by
  unfold ac
  rw [acT]
  simp [List.getD, List.getElem?_append_right, acT_len]
theorem mem_acF {T : List (List (List Nat))} {m k : Nat} {p : List Nat} : p ∈ acF T m k ↔ ∃ i, i < k ∧ ∃ c ∈ T.getD (m - (i + 1)) [], p = c ++ [i + 1] := by
  unfold acF
  rw [List.mem_flatMap]
  constructor
  · rintro ⟨i, hi, h⟩
    obtain ⟨c, hc, e⟩ := List.mem_map.mp h
    exact ⟨i, List.mem_range.mp hi, c, hc, e.symm⟩
  · rintro ⟨i, hi, c, hc, e⟩
    exact ⟨i, List.mem_range.mpr hi, List.mem_map.mpr ⟨c, hc, e.symm⟩⟩
theorem ac_sound {B : Nat} : ∀ m p, p ∈ ac B m → Cut B m p := by
  intro m
  induction m using Nat.strongRecOn with
  | _ m ih =>
    intro p hp
    cases m with
    | zero =>
      have : p = [] := by simpa [ac, acT] using hp
      subst this
      exact rfl
    | succ m =>
      rw [ac_succ, mem_acF] at hp
      obtain ⟨i, hi, c, hc, rfl⟩ := hp
      rw [acT_getD B (by omega)] at hc
      have := Cut_snoc (l := i + 1) (by omega) (show i + 1 ≤ B by omega) (ih (m + 1 - (i + 1)) (by omega) c hc)
      rwa [show m + 1 - (i + 1) + (i + 1) = m + 1 by omega] at this
theorem ac_all {B : Nat} : ∀ m p, Cut B m p → p ∈ ac B m := by
  intro m
  induction m using Nat.strongRecOn with
  | _ m ih =>
    intro p hp
    rw [Cut_iff] at hp
    obtain ⟨h1, h2⟩ := hp
    cases m with
    | zero =>
      cases p with
      | nil => simp [ac, acT]
      | cons l p =>
        have := (h2 l List.mem_cons_self).1
        simp at h1
        omega
    | succ m =>
      rcases List.eq_nil_or_concat p with e | ⟨c, l, e⟩
      · subst e
        simp at h1
      · rw [List.concat_eq_append] at e
        subst e
        obtain ⟨l1, l2⟩ := h2 l (by simp)
        rw [List.sum_append] at h1
        have h1 : c.sum + l = m + 1 := by simpa using h1
        rw [ac_succ, mem_acF]
        refine ⟨l - 1, by omega, c, ?_, by rw [show l - 1 + 1 = l by omega]⟩
        rw [show l - 1 + 1 = l by omega, acT_getD B (by omega)]
        exact ih (m + 1 - l) (by omega) c ((Cut_iff _ _).mpr ⟨by omega, fun x hx => h2 x (List.mem_append_left _ hx)⟩)
theorem sum_two : ∀ k : Nat, ((List.range k).map fun i => 2 ^ i).sum = 2 ^ k - 1
  | 0 => rfl
  | k + 1 => by
    rw [List.range_succ, List.map_append, List.sum_append, sum_two k]
    have : 0 < 2 ^ k := Nat.two_pow_pos k
    simp only [List.map_cons, List.map_nil, List.sum_cons, List.sum_nil, Nat.pow_succ]
    omega
theorem acF_len {B m : Nat} (ih : ∀ i, i ≤ m → (ac B i).length ≤ 2 ^ i) : ∀ k, k ≤ m + 1 → (acF (acT B m) (m + 1) k).length + 2 ^ (m + 1 - k) ≤ 2 ^ (m + 1)
  | 0, _ => by
    show 0 + 2 ^ (m + 1 - 0) ≤ _
    simp
  | k + 1, h => by
    have h1 := acF_len ih k (by omega)
    rw [acF_succ, List.length_append, List.length_map, acT_getD B (by omega)]
    have h2 := ih (m + 1 - (k + 1)) (by omega)
    have h3 : 2 ^ (m + 1 - k) = 2 ^ (m + 1 - (k + 1)) + 2 ^ (m + 1 - (k + 1)) := by
      rw [show m + 1 - k = (m + 1 - (k + 1)) + 1 by omega, Nat.pow_succ]
      omega
    omega
theorem ac_len {B : Nat} : ∀ m, (ac B m).length ≤ 2 ^ m := by
  intro m
  induction m using Nat.strongRecOn with
  | _ m ih =>
    cases m with
    | zero => exact Nat.le_refl _
    | succ m =>
      rw [ac_succ]
      exact Nat.le_trans (Nat.le_add_right _ _) (acF_len (B := B) (m := m) (fun i hi => ih i (by omega)) (min B (m + 1)) (by omega))
end Wq
set_option Elab.async false
set_option linter.all false
set_option maxRecDepth 100000
set_option maxHeartbeats 4000000
namespace Wq
open PySem PySem.Spec PyProof.Rows L2
def TpAt (G : Hp) (t : Addr) (c : List Nat) : Prop := G t = some (.tup (c.map nI))
def TlAt (G : Hp) (p : Addr) (cs : List (List Nat)) : Prop := ∃ ts : List Addr, G p = some (.lst (ts.map V.ref)) ∧ ts.length = cs.length ∧ ∀ (k : Nat) (c : List Nat), cs[k]? = some c → ∃ t, ts[k]? = some t ∧ TpAt G t c
def RwAt (G : Hp) (p : Addr) (T : List (List (List Nat))) : Prop := ∃ ps : List Addr, G p = some (.lst (ps.map V.ref)) ∧ ps.length = T.length ∧ ∀ (k : Nat) (cs : List (List Nat)), T[k]? = some cs → ∃ q, ps[k]? = some q ∧ q ≠ p ∧ TlAt G q cs
theorem TlAt.same {G G' : Hp} {p : Addr} {cs : List (List Nat)} (h : TlAt G p cs) (s : Same G G') : TlAt G' p cs := by
  obtain ⟨ts, h1, h2, h3⟩ := h
  exact ⟨ts, s _ _ h1, h2, fun k e hk => (h3 k e hk).imp fun t ⟨a, b⟩ => ⟨a, s _ _ b⟩⟩
theorem RwAt.same {G G' : Hp} {p : Addr} {T : List (List (List Nat))} (h : RwAt G p T) (s : Same G G') : RwAt G' p T := by
  obtain ⟨ts, h1, h2, h3⟩ := h
  exact ⟨ts, s _ _ h1, h2, fun k e hk => (h3 k e hk).imp fun t ⟨a, n, b⟩ => ⟨a, n, b.same s⟩⟩
theorem TpAt.put {G : Hp} {t p : Addr} {c : List Nat} {xs ys : List V} (h : TpAt G t c) (hp : G p = some (.lst xs)) : TpAt (upd G p (.lst ys)) t c := by
  unfold TpAt at *
  rw [upd_ne (ne_of h hp (fun z => nomatch z))]
  exact h
theorem get_app {α : Type} {a b : List α} {k : Nat} {c : α} (h : (a ++ b)[k]? = some c) : (k < a.length ∧ a[k]? = some c) ∨ (a.length ≤ k ∧ b[k - a.length]? = some c) := by
  by_cases hl : k < a.length
  · rw [List.getElem?_append_left hl] at h
    exact .inl ⟨hl, h⟩
  · rw [List.getElem?_append_right (by omega)] at h
    exact .inr ⟨by omega, h⟩
/-- a row of texts goes behind another one -/
theorem TlAt.extend {G : Hp} {p d : Addr} {cs ds : List (List Nat)} (h : TlAt G p cs) (h' : TlAt G d ds) : ∃ xs zs, G p = some (.lst xs) ∧ G d = some (.lst zs) ∧ xs.length = cs.length ∧ zs.length = ds.length ∧ TlAt (upd G p (.lst (xs ++ zs))) p (cs ++ ds) := by
  obtain ⟨ts, h1, h2, h3⟩ := h
  obtain ⟨us, g1, g2, g3⟩ := h'
  refine ⟨_, _, h1, g1, by rw [List.length_map]; exact h2, by rw [List.length_map]; exact g2, ts ++ us, by rw [upd_same, List.map_append], by rw [List.length_append, List.length_append, h2, g2], fun k c hk => ?_⟩
  rcases get_app hk with ⟨a, b⟩ | ⟨a, b⟩
  · obtain ⟨t, e1, e2⟩ := h3 k c b
    exact ⟨t, by rw [List.getElem?_append_left (by omega)]; exact e1, e2.put h1⟩
  · obtain ⟨t, e1, e2⟩ := g3 _ c b
    exact ⟨t, by rw [List.getElem?_append_right (by omega), h2]; exact e1, e2.put h1⟩
/-- one more text -/
theorem TlAt.push {G : Hp} {p t : Addr} {cs : List (List Nat)} {c : List Nat} (h : TlAt G p cs) (ht : TpAt G t c) : ∃ xs, G p = some (.lst xs) ∧ xs.length = cs.length ∧ TlAt (upd G p (.lst (xs ++ [.ref t]))) p (cs ++ [c]) := by
  obtain ⟨ts, h1, h2, h3⟩ := h
  refine ⟨_, h1, by rw [List.length_map]; exact h2, ts ++ [t], by rw [upd_same, List.map_append]; rfl, by rw [List.length_append, List.length_append, h2]; rfl, fun k e hk => ?_⟩
  rcases get_app hk with ⟨a, b⟩ | ⟨a, b⟩
  · obtain ⟨u, e1, e2⟩ := h3 k e b
    exact ⟨u, by rw [List.getElem?_append_left (by omega)]; exact e1, e2.put h1⟩
  · have hz : k - cs.length = 0 := by
      have := (List.getElem?_eq_some_iff.mp b).1
      simp at this
      omega
    rw [hz] at b
    have he : c = e := by simpa using b
    subst he
    exact ⟨t, by rw [List.getElem?_append_right (by omega), show k - ts.length = 0 by omega]; rfl, ht.put h1⟩
/-- one more row -/
theorem RwAt.push {G : Hp} {p q : Addr} {T : List (List (List Nat))} {cs : List (List Nat)} (h : RwAt G p T) (hq : TlAt G q cs) (hne : q ≠ p) : ∃ xs, G p = some (.lst xs) ∧ xs.length = T.length ∧ RwAt (upd G p (.lst (xs ++ [.ref q]))) p (T ++ [cs]) := by
  obtain ⟨ps, h1, h2, h3⟩ := h
  have keep : ∀ q' cs', q' ≠ p → TlAt G q' cs' → TlAt (upd G p (.lst (ps.map V.ref ++ [.ref q]))) q' cs' := fun q' cs' hn h' => by
    obtain ⟨ts, a, b, c⟩ := h'
    exact ⟨ts, by rw [upd_ne hn]; exact a, b, fun k e hk => (c k e hk).imp fun t ⟨x, y⟩ => ⟨x, y.put h1⟩⟩
  refine ⟨_, h1, by rw [List.length_map]; exact h2, ps ++ [q], by rw [upd_same, List.map_append]; rfl, by rw [List.length_append, List.length_append, h2]; rfl, fun k e hk => ?_⟩
  rcases get_app hk with ⟨a, b⟩ | ⟨a, b⟩
  · obtain ⟨t, e1, n, e2⟩ := h3 k e b
    exact ⟨t, by rw [List.getElem?_append_left (by omega)]; exact e1, n, keep _ _ n e2⟩
  · have hz : k - T.length = 0 := by
      have := (List.getElem?_eq_some_iff.mp b).1
      simp at this
      omega
    rw [hz] at b
    have he : cs = e := by simpa using b
    subst he
    exact ⟨q, by rw [List.getElem?_append_right (by omega), show k - ps.length = 0 by omega]; rfl, hne, keep _ _ hne hq⟩
def teAC : TE := fun σ G Q => ∃ (l : Nat) (c : List Nat) (tc : Addr) (x0 x1 x2 x3 x4 : Option V), σ = [x0, x1, x2, x3, x4, some (nI l), some (.ref tc)] ∧ TpAt G tc c ∧ c.length ≤ 2000 ∧ ∀ pc G', Same G G' → TpAt G' pc (c ++ [l]) → Q (.ref pc) G'
abbrev sAC : Stmt := top 33
abbrev NAC : List Str := ["_law_many", "_law_block", "_law_rows", "_law_size", "_law_found", "_law_long", "_law_cut"]
theorem scAC : FnScope NAC ["_law_many", "_law_block"] (defScope sAC) := ⟨rfl, rfl, rfl, by decide +kernel, rfl, by decide +kernel, by decide +kernel⟩
def spAC : Sp := fun vs H Q _ => ∃ (n B : Nat), vs = [nI n, nI B] ∧ n ≤ 8 ∧ 1 ≤ B ∧ B ≤ 16 ∧ ∀ p H', Same H H' → TlAt H' p (ac B n) → Q (.ref p) H'
section
variable {P : Program} {w : World} {K : PySem.W.Frag} {mg : Str → Option Value} {base : Heap} {C CE : Addr}
theorem ok_AC (D : DefAt K mg "_law_all_cuts" sAC) (T : Txt K mg) : Cl P w K mg base 1 "_law_all_cuts" spAC := by
  refine cl_of D scAC (fun vs H Q E h => ?_) (fun _ _ _ _ _ _ us hl => match us, hl with | [_, _], _ => rfl) (fun f cdv A1 outer s H vs Q E hr h => ?_)
  · obtain ⟨n, B, rfl, _⟩ := h
    rfl
  · obtain ⟨n, B, rfl, hn, hB1, hB16, k⟩ := h
    refine ⟨_, pss_cons (ps_set (i := 2) scAC.nd rfl (Or.inl rfl) (pe_lst (pa_cons (pe_lst (pa_cons (pe_tup pa_nil) pa_nil)) pa_nil)))
(C8.pss_cut (ps_for PassesOwn.never rfl (pi_range2 rfl (by exact T.range) (pa_cons pe_int (pa_cons (pe_op op_add (pv 0) pe_int) pa_nil))) (pg_name (i := 3) scAC.nd rfl (Or.inl rfl))
(pss_cons (ps_set (i := 4) scAC.nd rfl (Or.inl rfl) (pe_lst pa_nil))
(C8.pss_cut (ps_for PassesOwn.never rfl (pi_range2 rfl (by exact T.range) (pa_cons pe_int (pa_cons (pe_op op_add (pe_callB (call_min2 rfl) (by rfl) (by exact T.min) (by decide +kernel) (pa_cons (pv 1) (pa_cons (pv 3) pa_nil))) pe_int) pa_nil))) (pg_name (i := 5) scAC.nd rfl (Or.inr rfl))
(pss_one (ps_expr (pe_bm PySem.F.plainAttrs_list PySem.F.slot_list_extend PySem.F.type_list_extend mt_extend (pv 4) (pa_cons (pe_lc (own := [("_law_cut", 6)]) (g := gName 6) (tt := tYes) (by rfl) scAC.nd (pi_list (pe_ix ix_list (pv 2) (pe_op op_sub (pv 3) (pv 5)) (fun _ _ => rfl))) (blkOk_by (own := [("_law_cut", 6)]) (N := NAC) (sc := defScope sAC) (by decide +kernel)) (fun _ _ _ _ _ => (pg_name (i := 6) scAC.nd rfl (Or.inl rfl))) (fun _ _ _ _ _ => pts_nil) (te := teAC) (fun _ _ _ _ _ => (pe_imp (t' := teAC) (pe_op op_catA (pv 6) (pe_tup (pa_cons (pv 5) pa_nil))) (by
      rintro σ G Q ⟨l, c, tc, x0, x1, x2, x3, x4, rfl, hc, hcl, kq⟩
      refine ⟨_, rfl, _, rfl, by show 1 ≤ sizeLine; decide, fun pt hpt => ?_⟩
      have st := sNew (o := .tup [nI l]) hpt
      refine ⟨tc, pt, _, _, rfl, rfl, .inl (.inl (st _ _ hc)), .inl (.inl upd_same), ?_, fun z => ?_, fun _ z => (nomatch z), fun z _ p hp => ?_⟩
      · rw [List.length_map, sizeLine_eq]
        show _ + 1 ≤ _
        omega
      · have : c = [] := by cases c with
          | nil => rfl
          | cons a b => cases z
        subst this
        exact kq pt _ st upd_same
      · refine kq p _ (st.trans (sNew hp)) ?_
        unfold TpAt
        rw [upd_same, List.map_append]
        rfl)))) pa_nil)))))
(pss_one (ps_expr (pe_bm PySem.F.plainAttrs_list PySem.F.slot_list_append PySem.F.type_list_append mt_append (pv 2) (pa_cons (pv 4) pa_nil)))))))
(pss_one (ps_ret (pe_ix ix_list (pv 2) (pv 0) (fun _ _ => rfl))))), ?_⟩
    refine ⟨by show 0 ≤ sizeLine; decide, fun t0 ht0 => ⟨by show 1 ≤ sizeLine; decide, fun l0 hl0 => ⟨by show 1 ≤ sizeLine; decide, fun p0 hp0 => ?_⟩⟩⟩
    have s1 := sNew (o := .tup []) ht0
    have s2 := sNew (o := .lst [.ref t0]) hl0
    have s3 := sNew (o := .lst [.ref l0]) hp0
    have sA := s1.trans (s2.trans s3)
    have b0 : RwAt (upd (upd (upd H t0 (.tup [])) l0 (.lst [.ref t0])) p0 (.lst [.ref l0])) p0 (acT B 0) := ⟨[l0], upd_same, rfl, fun i e he => by
      have hi : i = 0 := by
        have := (List.getElem?_eq_some_iff.mp he).1
        simp [acT] at this
        exact this
      subst hi
      have he : ([[]] : List (List Nat)) = e := Option.some.inj he
      subst he
      refine ⟨l0, rfl, ne_of_none upd_same hp0, [t0], s3 _ _ upd_same, rfl, fun k c hk => ?_⟩
      have hk0 : k = 0 := by
        have := (List.getElem?_eq_some_iff.mp hk).1
        simp at this
        exact this
      subst hk0
      have hc : ([] : List Nat) = c := Option.some.inj hk
      subst hc
      exact ⟨t0, rfl, s3 _ _ (s2 _ _ upd_same)⟩⟩
    have hpH : H p0 = none := (s1.trans s2).free hp0
    refine ⟨fun σ G => ∃ x3 x4 x5 x6 : Option V, σ = [some (nI n), some (nI B), some (.ref p0), x3, x4, x5, x6] ∧ Same H G ∧ RwAt G p0 (acT B n), ?_, ?_⟩
    · refine ⟨_, rfl, _, _, rfl, rfl, 1, (n : Int) + 1, rfl, by omega, ?_⟩
      refine for_up (n := n) (by omega) (fun i σ G => ∃ x3 x4 x5 x6 : Option V, σ = [some (nI n), some (nI B), some (.ref p0), x3, x4, x5, x6] ∧ Same H G ∧ RwAt G p0 (acT B i)) ⟨_, _, _, _, rfl, sA, b0⟩ ?_ ?_
      · rintro i σ G hi ⟨x3, x4, x5, x6, rfl, sm, hb⟩
        refine ⟨by show 0 ≤ sizeLine; decide, fun fp hfp => ?_⟩
        have sr := sNew (o := .lst []) hfp
        have h256 : (2 : Nat) ^ (i + 1) ≤ 256 := Nat.le_trans (Nat.pow_le_pow_right (by decide) (show i + 1 ≤ 8 by omega)) (by decide)
        refine ⟨fun σ G' => ∃ x5 x6 : Option V, σ = [some (nI n), some (nI B), some (.ref p0), some (nI (i + 1)), some (.ref fp), x5, x6] ∧ Same G G' ∧ TlAt G' fp (acF (acT B i) (i + 1) (min B (i + 1))), ?_, ?_⟩
        · have hm : (if ((i + 1 : Nat) : Int) < (B : Int) then ((i + 1 : Nat) : Int) else (B : Int)) + 1 = ((min B (i + 1) : Nat) : Int) + 1 := by
            split <;> omega
          refine ⟨_, rfl, _, rfl, _, _, rfl, _, _, rfl, rfl, 1, ((min B (i + 1) : Nat) : Int) + 1, congrArg (fun z => [V.int 1, V.int z]) hm, by omega, ?_⟩
          refine for_up (n := min B (i + 1)) (by omega) (fun j σ G' => ∃ x5 x6 : Option V, σ = [some (nI n), some (nI B), some (.ref p0), some (nI (i + 1)), some (.ref fp), x5, x6] ∧ Same G G' ∧ TlAt G' fp (acF (acT B i) (i + 1) j))
            ⟨_, _, rfl, sr, [], upd_same, rfl, fun k c hk => by simp [acF] at hk⟩ ?_ ?_
          · rintro j σ G2 hj ⟨y5, y6, rfl, sm2, hF⟩
            obtain ⟨ps, hp, hlen, hps⟩ := hb.same sm2
            obtain ⟨qa, hqa, hne, hTl⟩ := hps _ _ (acT_at B (m := i) (i := i - j) (by omega))
            obtain ⟨us, hu1, hu2, hu3⟩ := id hTl
            obtain ⟨ts, hf1, hf2, hf3⟩ := id hF
            have hcuts := fun c hc => Cut_len (ac_sound (B := B) (i - j) c hc)
            have hal := ac_len (B := B) (i - j)
            have hle2 : (2 : Nat) ^ (i - j) ≤ 2 ^ (i + 1) := Nat.pow_le_pow_right (by decide) (by omega)
            refine ⟨_, rfl, .inl ⟨rfl, _, .inl (.inl hf1)⟩, _, rfl, _, rfl, _, rfl, _, _, rfl, rfl, p0, _, _, .ref qa, rfl, rfl, .inl (.inl hp), ?_, qa, rfl, ⟨_, .inl (.inl hu1)⟩, fun D hD => ?_⟩
            · have e : ((i + 1 : Nat) : Int) - ((j + 1 : Nat) : Int) = ((i - j : Nat) : Int) := by omega
              refine (congrArg (fun z => atI (ps.map V.ref) z = some (V.ref qa)) e).mpr (atI_nat ?_)
              rw [List.getElem?_map, hqa]
              rfl
            refine lc_list (K := K) (a := qa) (xs := us.map V.ref) (fun kk G' => Same G2 G' ∧ TlAt G' D (((ac B (i - j)).take kk).map fun c => c ++ [j + 1])) ⟨sNew hD, [], upd_same, rfl, fun k c hk => by simp at hk⟩ (fun kk G' _ ⟨sg, _⟩ => .inl (.inl (sg _ _ hu1))) ?_ ?_
            · rintro kk z G' hz ⟨sg, hT⟩
              rw [List.getElem?_map] at hz
              cases eu : us[kk]? with
              | none => rw [eu] at hz; cases hz
              | some u0 =>
                rw [eu] at hz
                have hz : V.ref u0 = z := Option.some.inj hz
                subst hz
                have hkl := (List.getElem?_eq_some_iff.mp eu).1
                obtain ⟨c, hc⟩ : ∃ c, (ac B (i - j))[kk]? = some c := ⟨(ac B (i - j))[kk], List.getElem?_eq_getElem (by omega)⟩
                obtain ⟨u1, hu, hTp⟩ := hu3 kk c hc
                have : u0 = u1 := by rw [eu] at hu; exact Option.some.inj hu
                subst this
                refine ⟨rfl, ?_⟩
                simp only [tYes, if_true]
                have hcl := hcuts c (List.mem_of_getElem? hc)
                refine ⟨j + 1, c, u0, _, _, _, _, _, rfl, sg _ _ hTp, by omega, fun pc G3 s3' hpc => ?_⟩
                obtain ⟨xs, g1, g2, g3⟩ := (hT.same s3').push hpc
                refine ⟨xs, g1, by rw [g2, List.length_map, List.length_take, sizeLine_eq]; omega, sPut (sg.trans s3') hD, ?_⟩
                rw [List.take_succ, hc, List.map_append]
                exact g3
            · rintro G' ⟨sg, hT⟩
              have hll : (us.map V.ref).length = (ac B (i - j)).length := by rw [List.length_map, hu2]
              rw [hll, List.take_length] at hT
              obtain ⟨xs, zs, g1, g2, g3, g4, g5⟩ := (hF.same sg).extend hT
              have hacl := acF_len (B := B) (m := i) (fun z hz => ac_len z) j (by omega)
              have hxs : xs.length ≤ 256 := by rw [g3]; exact Nat.le_trans (Nat.le_trans (Nat.le_add_right _ _) hacl) h256
              have hzs : zs.length ≤ 256 := by rw [g4, List.length_map]; exact Nat.le_trans hal (Nat.le_trans hle2 h256)
              refine ⟨fp, D, xs, zs, rfl, rfl, g1, g2, by rw [sizeLine_eq]; omega, _, _, rfl, sPut (sm2.trans sg) hfp, ?_⟩
              rw [acF_succ, acT_getD B (by omega), show i + 1 - (j + 1) = i - j by omega]
              exact g5
          · rintro σ G2 ⟨y5, y6, rfl, sm2, hF⟩
            exact ⟨_, _, rfl, sm2, hF⟩
        · rintro σ G2 ⟨y5, y6, rfl, sm2, hF⟩
          have hne : fp ≠ p0 := (ne_of_none (hb.choose_spec.1) hfp).symm
          obtain ⟨xs, g1, g2, g3⟩ := (hb.same sm2).push hF hne
          refine ⟨_, rfl, .inl ⟨rfl, xs, .inl (.inl g1)⟩, _, rfl, p0, xs, .ref fp, rfl, rfl, g1, by rw [g2, acT_len, sizeLine_eq]; omega, _, _, _, _, rfl, sPut (sm.trans sm2) hpH, ?_⟩
          rw [acT]
          exact g3
      · rintro σ G ⟨x3, x4, x5, x6, rfl, sm, hb⟩
        exact ⟨_, _, _, _, rfl, sm, hb⟩
    · rintro σ G ⟨x3, x4, x5, x6, rfl, sm, hb⟩
      obtain ⟨ps, hp, hlen, hps⟩ := hb
      obtain ⟨qa, hqa, hne, hTl⟩ := hps _ _ (acT_at B (Nat.le_refl n))
      exact ⟨_, rfl, _, rfl, p0, _, _, .ref qa, rfl, rfl, .inl (.inl hp), atI_nat (by rw [List.getElem?_map, hqa]; rfl), k qa G sm hTl⟩
end
end Wq
set_option Elab.async false
set_option linter.all false
set_option maxRecDepth 100000
set_option maxHeartbeats 4000000
namespace Wq
open PySem PySem.Spec PyProof.Rows L2
open PySem.W (dataLt alike alikeAll AlikeAll minD)
/-! the least of all cuts -/
def pickC (g : Nat → Nat → Int) (n : Nat) (b : Option (List Nat)) (c : List Nat) : Option (List Nat) :=
  match b with
  | none => some c
  | some p => if HT.lexLt (fk g n n c) (fk g n n p) = true then some c else some p
def lfC (g : Nat → Nat → Int) (n : Nat) (L : List (List Nat)) : Option (List Nat) := L.foldl (pickC g n) none
theorem lfC_snoc (g : Nat → Nat → Int) (n : Nat) (L : List (List Nat)) (c : List Nat) : lfC g n (L ++ [c]) = pickC g n (lfC g n L) c := by
  unfold lfC
  rw [List.foldl_append]
  rfl
theorem lfC_spec (g : Nat → Nat → Int) (n : Nat) : ∀ (L : List (List Nat)) (d : List Nat), d ∈ L → ∃ p, lfC g n L = some p ∧ p ∈ L ∧ ∀ c ∈ L, HT.lexLt (fk g n n c) (fk g n n p) = false := by
  suffices h : ∀ (L : List (List Nat)), L = [] ∨ ∃ p, lfC g n L = some p ∧ p ∈ L ∧ ∀ c ∈ L, HT.lexLt (fk g n n c) (fk g n n p) = false by
    intro L d hd
    rcases h L with e | e
    · subst e; cases hd
    · exact e
  intro L
  induction hl : L.length generalizing L with
  | zero => exact .inl (List.length_eq_zero_iff.mp hl)
  | succ k ih =>
    right
    rcases List.eq_nil_or_concat L with e | ⟨L', c, e⟩
    · subst e; cases hl
    · rw [List.concat_eq_append] at e
      subst e
      rw [lfC_snoc]
      have hl' : L'.length = k := by simpa using hl
      rcases ih L' hl' with e | ⟨p, e1, e2, e3⟩
      · subst e
        refine ⟨c, rfl, by simp, fun x hx => ?_⟩
        have : x = c := by simpa using hx
        subst this
        exact lx_irr _
      · rw [e1]
        unfold pickC
        by_cases hc : HT.lexLt (fk g n n c) (fk g n n p) = true
        · refine ⟨c, by simp only [if_pos hc], by simp, fun x hx => ?_⟩
          rcases List.mem_append.mp hx with h | h
          · exact NtL.lex_tr _ _ _ (NtL.lex_asym _ _ hc) (e3 x h)
          · rw [List.mem_singleton.mp h]; exact lx_irr _
        · refine ⟨p, by simp only [if_neg hc], List.mem_append_left _ e2, fun x hx => ?_⟩
          rcases List.mem_append.mp hx with h | h
          · exact e3 x h
          · rw [List.mem_singleton.mp h]; simpa using hc
theorem lfC_De (g : Nat → Nat → Int) (n B : Nat) (hB : 1 ≤ B) : lfC g n (ac B n) = some (De g n B n).2.2 := by
  have hd := (De_cut g n B hB n).1
  obtain ⟨p, e1, e2, e3⟩ := lfC_spec g n (ac B n) _ (ac_all n _ hd)
  rw [e1]
  have a1 := De_least g n B hB n p (ac_sound n p e2)
  have a2 := e3 _ (ac_all n _ hd)
  have e := lx_eq _ _ a1 a2
  unfold fk at e
  rw [ngs_inj (List.cons.inj (List.cons.inj e).2).2]
abbrev sLe : Stmt := top 34
abbrev NLe : List Str := ["_law_parts_here", "_law_widths", "_law_table", "_law_best", "_law_at", "_law_end", "_law_cut", "_law_weight_here", "_law_long", "_law_row"]
theorem scLe : FnScope NLe ["_law_parts_here", "_law_widths"] (defScope sLe) := ⟨rfl, rfl, rfl, by decide +kernel, rfl, by decide +kernel, by decide +kernel⟩
def spLe (K : PySem.W.Frag) : Sp := fun vs H Q _ => ∃ (q l : Addr) (y : Ly) (hd : Int) (ws : List Int), vs = [.ref q, .ref l] ∧ SqL K H q (paV y hd) ∧ HdOk y hd ∧ y.Ok ∧ SqL K H l (ws.map V.int) ∧ Wd ws ∧ ws.length ≤ 8 ∧
  ∀ p H', Same H H' → H' p = some (.tup (((De (gL y ws) ws.length y.B ws.length).2.2).map nI)) → Q (.ref p) H'
/-- the table of weights, as far as it goes -/
def kk2 (a e : Nat) : List Key := [Sum.inl (a : Int), Sum.inl (e : Int)]
def DtAt (G : Hp) (d : Addr) (g : Nat → Nat → Int) (n B i j : Nat) : Prop := ∃ kvs : List (List Key × V), G d = some (.dT kvs) ∧ kvs.length ≤ 8 * i + j ∧ ∀ a e, a < e → e ≤ n → e ≤ a + B → (a < i ∨ (a = i ∧ e < i + 1 + j)) → valV kvs (kk2 a e) = some (.int (g a (e - a)))
/-- the best one so far -/
def bcV (g : Nat → Nat → Int) (n : Nat) (b : Option (List Nat)) (v : V) (G : Hp) : Prop :=
  match b with
  | none => v = .non
  | some c => ∃ t, v = .ref t ∧ LEn G t (Wc g n n c, c.length, c)
theorem bcV.same {g : Nat → Nat → Int} {n : Nat} {b : Option (List Nat)} {v : V} {G G' : Hp} (h : bcV g n b v G) (s : Same G G') : bcV g n b v G' := by
  cases b with
  | none => exact h
  | some c =>
    obtain ⟨t, e, h⟩ := h
    exact ⟨t, e, h.same s⟩
def isC (g : Nat → Nat → Int) (n : Nat) (b : Option (List Nat)) (c : List Nat) : Bool :=
  match b with
  | none => true
  | some p => HT.lexLt (fk g n n c) (fk g n n p)
theorem pickC_yes {g : Nat → Nat → Int} {n : Nat} {b : Option (List Nat)} {e : List Nat} (h : isC g n b e = true) : pickC g n b e = some e := by
  cases b with
  | none => rfl
  | some p => unfold pickC; simp only [if_pos (show HT.lexLt (fk g n n e) (fk g n n p) = true from h)]
theorem pickC_no {g : Nat → Nat → Int} {n : Nat} {b : Option (List Nat)} {e : List Nat} (h : ¬ isC g n b e = true) : pickC g n b e = b := by
  cases b with
  | none => exact absurd rfl h
  | some p => unfold pickC; simp only [if_neg (show ¬ HT.lexLt (fk g n n e) (fk g n n p) = true from h)]
theorem negs_step {cs : List Nat} {i : Nat} {c0 : Nat} (h : cs[i]? = some c0) : ((ngs (cs.take i)).map V.int ++ [V.int (-(c0 : Int))]) = (ngs (cs.take (i + 1))).map V.int := by
  rw [List.take_succ, h]
  unfold ngs
  simp
section
variable {P : Program} {w : World} {K : PySem.W.Frag} {mg : Str → Option Value} {base : Heap} {C CE : Addr}
theorem ok_Le (D : DefAt K mg "_law_least_cuts" sLe) (T : Txt K mg) (CW : Cl P w K mg base 2 "_law_weight" (spLW K)) (CA : Cl P w K mg base 1 "_law_all_cuts" spAC) : Cl P w K mg base 3 "_law_least_cuts" (spLe K) := by
  refine cl_of D scLe (fun vs H Q E h => ?_) (fun _ _ _ _ _ _ us hl => match us, hl with | [_, _], _ => rfl) (fun f cdv A1 outer s H vs Q E hr h => ?_)
  · obtain ⟨q, l, y, hd, ws, rfl, _⟩ := h
    rfl
  · obtain ⟨q, l, y, hd, ws, rfl, hq, hh, ok, hl, hw, hn, k⟩ := h
    have hL : (ws.map V.int).length = ws.length := List.length_map ..
    have hu := hu_of hr
    refine ⟨_, pss_cons (ps_par (i := 2) (j := 3) (by rfl) scLe.nd rfl rfl (by decide) rfl rfl (pa_cons pe_dnewT (pa_cons pe_non pa_nil)) (by rfl))
(C8.pss_cut (ps_for PassesOwn.never rfl (pi_range1 rfl (by exact T.range) (pa_cons (pe_callB call_len_seq (by rfl) (by exact T.len) PySem.boot_len (pa_cons (pv 1) pa_nil)) pa_nil)) (pg_name (i := 4) scLe.nd rfl (Or.inl rfl))
(pss_one (ps_for PassesOwn.never rfl (pi_range2 rfl (by exact T.range) (pa_cons (pe_op op_add (pv 4) pe_int) (pa_cons (pe_op op_add (pe_callB (call_min2 rfl) (by rfl) (by exact T.min) (by decide +kernel) (pa_cons (pe_callB call_len_seq (by rfl) (by exact T.len) PySem.boot_len (pa_cons (pv 1) pa_nil)) (pa_cons (pe_op op_add (pv 4) (pe_ix ix_list (pv 0) pe_int (fun _ _ => rfl))) pa_nil))) pe_int) pa_nil))) (pg_name (i := 5) scLe.nd rfl (Or.inl rfl))
(pss_one (ps_dput hu (pv 2) (pe_tup (pa_cons (pv 4) (pa_cons (pv 5) pa_nil))) (pe_ix ix_tup (pe_cl CW hr (by decide) rfl (pa_cons (pv 0) (pa_cons (pe_slice sl_list (pv 1) (po_some (pv 4)) (po_some (pv 5))) pa_nil))) pe_int (fun _ _ => rfl)) rfl)))))
(C8.pss_cut (ps_for PassesOwn.never rfl (pi_list (pe_cl CA hr (by decide) rfl (pa_cons (pe_callB call_len_seq (by rfl) (by exact T.len) PySem.boot_len (pa_cons (pv 1) pa_nil)) (pa_cons (pe_ix ix_list (pv 0) pe_int (fun _ _ => rfl)) pa_nil)))) (pg_name (i := 6) scLe.nd rfl (Or.inl rfl))
(pss_cons (ps_asg (pe_tup (pa_cons pe_int (pa_cons pe_int pa_nil))) (pg_tup (by rfl) (pgs_cons (pg_name (i := 7) scLe.nd rfl (Or.inl rfl)) (pgs_cons (pg_name (i := 4) scLe.nd rfl (Or.inl rfl)) pgs_nil))))
(C8.pss_cut (ps_for PassesOwn.never rfl (pi_tup (pv 6)) (pg_name (i := 8) scLe.nd rfl (Or.inl rfl))
(pss_cons (ps_set (i := 7) scLe.nd rfl (Or.inl rfl) (pe_op op_add (pv 7) (pe_dget hu (pv 2) (pe_tup (pa_cons (pv 4) (pa_cons (pe_op op_add (pv 4) (pv 8)) pa_nil))) (fun _ _ => rfl))))
(pss_one (ps_set (i := 4) scLe.nd rfl (Or.inl rfl) (pe_op op_add (pv 4) (pv 8))))))
(pss_cons (ps_set (i := 9) scLe.nd rfl (Or.inl rfl) (pe_tup (pa_cons (pv 7) (pa_cons (pe_callB call_len_seq (by rfl) (by exact T.len) PySem.boot_len (pa_cons (pv 6) pa_nil)) (pa_cons (pe_callTy call_tuple_of (by rfl) (by exact T.tuple) (by decide +kernel) (pa_cons (pe_lc (own := [("_law_long", 8)]) (g := gName 8) (tt := tYes) (by rfl) scLe.nd (pi_tup (pv 6)) (blkOk_by (own := [("_law_long", 8)]) (N := NLe) (sc := defScope sLe) (by decide +kernel)) (fun _ _ _ _ _ => (pg_name (i := 8) scLe.nd rfl (Or.inl rfl))) (fun _ _ _ _ _ => pts_nil) (fun _ _ _ _ _ => (pe_un un_neg (pv 8)))) pa_nil)) pa_nil)))))
(pss_one (ps_set (i := 3) scLe.nd rfl (Or.inl rfl) (pe_ifExp (PW.pt (pw_or (pt_cmpR op_isN (pv 3) pe_non (nomark _)) (pw_or1 (pt_cmpR (op_ltD (hu64 hr)) (pv 9) (pv 3) (nomark _))))) (pv 9) (pv 3))))))))
(pss_one (ps_ret (pe_callTy call_tuple_of (by rfl) (by exact T.tuple) (by decide +kernel) (pa_cons (pe_lc (own := [("_law_long", 8)]) (g := gName 8) (tt := tYes) (by rfl) scLe.nd (pi_tup (pe_ix ix_tup (pv 3) pe_int (fun _ _ => rfl))) (blkOk_by (own := [("_law_long", 8)]) (N := NLe) (sc := defScope sLe) (by decide +kernel)) (fun _ _ _ _ _ => (pg_name (i := 8) scLe.nd rfl (Or.inl rfl))) (fun _ _ _ _ _ => pts_nil) (fun _ _ _ _ _ => (pe_un un_neg (pv 8)))) pa_nil)))))), ?_⟩
    generalize hN : ws.length = N at *
    generalize hg : gL y ws = g at *
    have hB1 := ok.b1
    have hB16 := ok.b16
    intro d hd0
    refine ⟨_, _, rfl, ?_⟩
    have s0 := sNew (o := .dT []) hd0
    have dq : DtAt (upd H d (.dT [])) d g N y.B 0 0 := ⟨[], upd_same, by simp, fun a e _ _ _ h => by omega⟩
    refine ⟨fun σ G => ∃ x4 x5 : Option V, σ = [some (.ref q), some (.ref l), some (.ref d), some .non, x4, x5, none, none, none, none] ∧ Same H G ∧ DtAt G d g N y.B N 0, ?_, ?_⟩
    · refine ⟨_, rfl, l, _, rfl, .inl (SqL_same hl s0), _, rfl, by omega, by omega, ?_⟩
      rw [hL]
      refine for_range (lo := 0) (n := ((N : Int)).toNat) (fun i σ G => ∃ x4 x5 : Option V, σ = [some (.ref q), some (.ref l), some (.ref d), some .non, x4, x5, none, none, none, none] ∧ Same H G ∧ DtAt G d g N y.B i 0) ⟨_, _, rfl, s0, dq⟩ ?_ ?_
      · rintro i σ G hi ⟨x4, x5, rfl, sm, hD⟩
        have hi : i < N := by omega
        have hm : (if ((i : Int) + (y.B : Int)) < (N : Int) then (i : Int) + (y.B : Int) else (N : Int)) + 1 = ((min N (i + y.B) : Nat) : Int) + 1 := by
          split <;> omega
        refine ⟨_, rfl, _, _, rfl, rfl, _, rfl, l, _, rfl, .inl (SqL_same hl sm), _, rfl, _, rfl, q, _, 1, _, rfl, rfl, SqL_same hq sm, by rfl, _, _, rfl, rfl, _, _, rfl, _, _, rfl, rfl, (i : Int) + 1, ((min N (i + y.B) : Nat) : Int) + 1, ?_, by omega, ?_⟩
        · rw [hL, Int.zero_add]
          exact congrArg (fun z => [V.int ((i : Int) + 1), V.int z]) hm
        refine for_range (lo := (i : Int) + 1) (n := (((min N (i + y.B) : Nat) : Int) + 1 - ((i : Int) + 1)).toNat) (fun j σ G' => ∃ x5 : Option V, σ = [some (.ref q), some (.ref l), some (.ref d), some .non, some (.int (0 + (i : Int))), x5, none, none, none, none] ∧ Same H G' ∧ DtAt G' d g N y.B i j) ⟨_, rfl, sm, hD⟩ ?_ ?_
        · rintro j σ G2 hj ⟨y5, rfl, sm2, kvs, hk1, hk2, hk3⟩
          have hj : i + 1 + j ≤ N ∧ i + 1 + j ≤ i + y.B := by omega
          have hcv : cutV (ws.map V.int) (some (0 + (i : Int))) (some ((i : Int) + 1 + (j : Int))) = ((ws.drop i).take (j + 1)).map V.int := by
            rw [show 0 + (i : Int) = ((i : Nat) : Int) by omega, show (i : Int) + 1 + (j : Int) = ((i + 1 + j : Nat) : Int) by omega, cut_mid (by omega) (by rw [hL]; omega), ← List.map_drop, ← List.map_take, show i + 1 + j - i = j + 1 by omega]
          have hpl : ((ws.drop i).take (j + 1)).length = j + 1 := by
            rw [List.length_take, List.length_drop]
            omega
          refine ⟨_, rfl, _, rfl, _, rfl, _, rfl, _, rfl, _, rfl, l, _, rfl, SqL_same hl sm2, fun pz hz => ?_⟩
          have sz := sNew (o := .lst (cutV (ws.map V.int) (some (0 + (i : Int))) (some ((i : Int) + 1 + (j : Int))))) hz
          refine ⟨q, pz, y, hd, (ws.drop i).take (j + 1), rfl, SqL_same hq (sm2.trans sz), hh, ok, .inl (.inl (by rw [← hcv]; exact upd_same)), fun w hw2 => hw w (List.mem_of_mem_drop (List.mem_of_mem_take hw2)), by omega, by omega, fun r G3 s3 hr3 => ?_⟩
          have hgw : (Wt y (desc ((ws.drop i).take (j + 1)))).1 = g i (j + 1) := by
            rw [← hg]
            rfl
          refine ⟨r, _, 0, _, rfl, rfl, .inl (.inl hr3), by rfl, _, rfl, _, rfl, _, rfl, by show 2 ≤ sizeLine; decide, fun pk hpk => ?_⟩
          have sk := sNew (o := .tup [.int (0 + (i : Int)), .int ((i : Int) + 1 + (j : Int))]) hpk
          have sB := sz.trans (s3.trans sk)
          have hkey : [V.int (0 + (i : Int)), V.int ((i : Int) + 1 + (j : Int))] = (kk2 i (i + 1 + j)).map kV := by
            rw [show 0 + (i : Int) = ((i : Nat) : Int) by omega, show (i : Int) + 1 + (j : Int) = ((i + 1 + j : Nat) : Int) by omega]
            rfl
          refine ⟨d, _, rfl, DPut.t (sB _ _ hk1) (k := kk2 i (i + 1 + j)) (by rw [← hkey]; exact upd_same) (by rw [sizeLine_eq]; omega), _, rfl, sPut (sm2.trans sB) hd0, _, upd_same, ?_, fun a e h1 h2 h3 h4 => ?_⟩
          · have := length_putK kvs (kk2 i (i + 1 + j)) (.int (Wt y (desc ((ws.drop i).take (j + 1)))).1)
            omega
          · rw [valV_put]
            by_cases hc : kk2 a e = kk2 i (i + 1 + j)
            · have h5 : a = i ∧ e = i + 1 + j := by
                unfold kk2 at hc
                simp only [List.cons.injEq, Sum.inl.injEq, and_true] at hc
                omega
              rw [if_pos hc, hgw, h5.1, h5.2, show i + 1 + j - i = j + 1 by omega]
            · rw [if_neg hc]
              refine hk3 a e h1 h2 h3 ?_
              rcases h4 with h4 | ⟨h4, h5⟩
              · exact .inl h4
              · refine .inr ⟨h4, ?_⟩
                have : e ≠ i + 1 + j := fun z => hc (by rw [h4, z])
                omega
        · rintro σ G2 ⟨y5, rfl, sm2, kvs, hk1, hk2, hk3⟩
          exact ⟨_, _, rfl, sm2, kvs, hk1, by omega, fun a e h1 h2 h3 h4 => hk3 a e h1 h2 h3 (by omega)⟩
      · rintro σ G ⟨x4, x5, rfl, sm, hD⟩
        refine ⟨_, _, rfl, sm, ?_⟩
        rwa [show ((N : Int)).toNat = N by omega] at hD
    rintro σ G0 ⟨x4, x5, rfl, s1, hDt⟩
    obtain ⟨kvs, hk1, hk2, hk3⟩ := id hDt
    refine ⟨fun σ G => ∃ (v : V) (x4 x5 x6 x7 x8 x9 : Option V), σ = [some (.ref q), some (.ref l), some (.ref d), some v, x4, x5, x6, x7, x8, x9] ∧ Same G0 G ∧ bcV g N (lfC g N (ac y.B N)) v G, ?_, ?_⟩
    · refine ⟨_, rfl, l, _, rfl, .inl (SqL_same hl s1), _, rfl, q, _, 1, _, rfl, rfl, SqL_same hq s1, by rfl, N, y.B, ?_, by omega, hB1, hB16, fun pa G1 sa hTl => ?_⟩
      · rw [hL]
        rfl
      obtain ⟨ts, ht1, ht2, ht3⟩ := hTl
      refine ⟨pa, rfl, ⟨_, .inl (.inl ht1)⟩, for_list (K := K) (a := pa) (xs := ts.map V.ref) (fun kk σ G => ∃ (v : V) (x4 x5 x6 x7 x8 x9 : Option V), σ = [some (.ref q), some (.ref l), some (.ref d), some v, x4, x5, x6, x7, x8, x9] ∧ Same G1 G ∧ bcV g N (lfC g N ((ac y.B N).take kk)) v G)
        ⟨.non, _, _, _, _, _, _, rfl, .refl _, rfl⟩ (fun kk σ G _ ⟨_, _, _, _, _, _, _, _, sg, _⟩ => .inl (.inl (sg _ _ ht1))) ?_ ?_⟩
      · rintro kk z σ G hz ⟨v, x4, x5, x6, x7, x8, x9, rfl, sg, hv⟩
        rw [List.getElem?_map] at hz
        cases eu : ts[kk]? with
        | none => rw [eu] at hz; cases hz
        | some t =>
        rw [eu] at hz
        have hz : V.ref t = z := Option.some.inj hz
        subst hz
        have hkl := (List.getElem?_eq_some_iff.mp eu).1
        obtain ⟨c, hc⟩ : ∃ c, (ac y.B N)[kk]? = some c := ⟨(ac y.B N)[kk], List.getElem?_eq_getElem (by omega)⟩
        obtain ⟨t', hu, hTp⟩ := ht3 kk c hc
        have : t = t' := by rw [eu] at hu; exact Option.some.inj hu
        subst this
        have hTp : G t = some (.tup (c.map nI)) := sg _ _ hTp
        have hcut := ac_sound N c (List.mem_of_getElem? hc)
        have hclen := Cut_len hcut
        have hkG : G d = some (.dT kvs) := sg _ _ (sa _ _ hk1)
        refine ⟨by show 2 ≤ sizeLine; decide, fun p2 hp2 => ⟨p2, _, rfl, .inl (.inl upd_same), rfl, _, _, rfl, _, _, rfl, rfl, ?_⟩⟩
        have sp := sNew (o := .tup [.int 0, .int 0]) hp2
        refine ⟨fun σ G' => ∃ x4 x8 : Option V, σ = [some (.ref q), some (.ref l), some (.ref d), some v, x4, x5, some (.ref t), some (.int (Wc g N N c)), x8, x9] ∧ Same G G', ?_, ?_⟩
        · refine ⟨_, rfl, t, rfl, ⟨_, .inl (.inl (sp _ _ hTp))⟩, for_tup (K := K) (a := t) (xs := c.map nI) (fun j σ G' => ∃ (b : Nat) (W : Int) (x8 : Option V), σ = [some (.ref q), some (.ref l), some (.ref d), some v, some (nI b), x5, some (.ref t), some (.int W), x8, x9] ∧ Same G G' ∧ b ≤ N ∧ Cut y.B (N - b) (c.drop j) ∧ W + Wc g N (N - b) (c.drop j) = Wc g N N c)
            ⟨0, 0, _, rfl, sp, Nat.zero_le _, by rw [Nat.sub_zero]; exact hcut, by rw [Nat.sub_zero, Int.zero_add]; rfl⟩ (fun j σ G' _ ⟨_, _, _, _, sj, _⟩ => .inl (.inl (sj _ _ hTp))) ?_ ?_⟩
          · rintro j z σ G' hj ⟨b, W, y8, rfl, sj, hb, hcc, hw'⟩
            rw [List.getElem?_map] at hj
            cases ej : c[j]? with
            | none => rw [ej] at hj; cases hj
            | some l0 =>
            rw [ej] at hj
            have hz : nI l0 = z := Option.some.inj hj
            subst hz
            have hjl : j < c.length := (List.getElem?_eq_some_iff.mp ej).1
            have hdr : c.drop j = l0 :: c.drop (j + 1) := by
              rw [List.drop_eq_getElem_cons hjl, (List.getElem?_eq_some_iff.mp ej).2]
            rw [hdr] at hcc hw'
            obtain ⟨c1, c2, c3, c4⟩ := hcc
            refine ⟨_, rfl, _, rfl, _, rfl, _, rfl, _, rfl, _, _, rfl, rfl, by show 2 ≤ sizeLine; decide, fun pk hpk => ?_⟩
            have sk := sNew (o := .tup [nI b, .int ((b : Int) + (l0 : Int))]) hpk
            have hkey : [nI b, V.int ((b : Int) + (l0 : Int))] = (kk2 b (b + l0)).map kV := by
              rw [show (b : Int) + (l0 : Int) = ((b + l0 : Nat) : Int) by omega]
              rfl
            have hval : valV kvs (kk2 b (b + l0)) = some (.int (g b l0)) := by
              have := hk3 b (b + l0) (by omega) (by omega) (by omega) (by omega)
              rwa [show b + l0 - b = l0 by omega] at this
            refine ⟨d, .int (g b l0), rfl, ?_, _, _, rfl, rfl, _, rfl, _, rfl, _, _, rfl, rfl, ?_⟩
            · have := DGet.t (sk _ _ (sj _ _ hkG)) (k := kk2 b (b + l0)) (b := pk) (by rw [← hkey]; exact upd_same)
              rw [hval] at this
              exact this
            refine ⟨b + l0, W + g b l0, some (nI l0), ?_, sj.trans sk, by omega, by rw [show N - (b + l0) = N - b - l0 by omega]; exact c4, ?_⟩
            · have e : (b : Int) + (l0 : Int) = ((b + l0 : Nat) : Int) := by omega
              exact congrArg (fun z => [some (V.ref q), some (.ref l), some (.ref d), some v, some (V.int z), x5, some (.ref t), some (.int (W + g b l0)), some (nI l0), x9]) e
            · rw [← hw']
              show _ = W + (g (N - (N - b)) l0 + Wc g N (N - b - l0) (c.drop (j + 1)))
              rw [show N - (N - b) = b by omega, show N - (b + l0) = N - b - l0 by omega]
              omega
          · rintro σ G' ⟨b, W, y8, rfl, sj, hb, hcc, hw'⟩
            rw [List.length_map, List.drop_length] at hw'
            have e : W = Wc g N N c := by
              rw [← hw']
              show W = W + 0
              omega
            subst e
            exact ⟨_, _, rfl, sj⟩
        rintro σ G' ⟨y4, y8, rfl, sj⟩
        have hTp2 := sj _ _ hTp
        refine ⟨_, rfl, _, rfl, t, _, rfl, .inr (.inl (.inl hTp2)), _, rfl, t, rfl, ⟨_, .inl (.inl hTp2)⟩, fun D hD => ?_⟩
        refine lc_tup (K := K) (a := t) (xs := c.map nI) (fun i G2 => Same G' G2 ∧ G2 D = some (.lst ((ngs (c.take i)).map V.int))) ⟨sNew hD, upd_same⟩ (fun i G2 _ ⟨s2, _⟩ => .inl (.inl (s2 _ _ hTp2))) ?_ ?_
        · rintro i z G2 hi ⟨s2, hD2⟩
          rw [List.getElem?_map] at hi
          cases ec : c[i]? with
          | none => rw [ec] at hi; cases hi
          | some c0 =>
          rw [ec] at hi
          have hz : nI c0 = z := Option.some.inj hi
          subst hz
          have hil := (List.getElem?_eq_some_iff.mp ec).1
          refine ⟨rfl, ?_⟩
          simp only [tYes, if_true]
          refine ⟨_, rfl, _, rfl, _, hD2, by rw [List.length_map, ngs, List.length_map, List.length_take, sizeLine_eq]; omega, sPut s2 hD, ?_⟩
          rw [upd_same]
          exact congrArg (fun z => some (HO.lst z)) (negs_step ec)
        · rintro G2 ⟨s2, hD2⟩
          rw [List.length_map, List.take_length] at hD2
          refine ⟨D, _, rfl, .inl ⟨.inl (.inl hD2), fun tc htc => ?_⟩⟩
          have stc := sNew (o := .tup ((ngs c).map V.int)) htc
          refine ⟨by show 3 ≤ sizeLine; decide, fun o ho => ?_⟩
          have so := sNew (o := .tup [.int (Wc g N N c), .int (((c.map nI).length : Nat) : Int), .ref tc]) ho
          have hLE : LEn (upd (upd G2 tc (.tup ((ngs c).map V.int))) o (.tup [.int (Wc g N N c), .int (((c.map nI).length : Nat) : Int), .ref tc])) o (Wc g N N c, c.length, c) := ⟨tc, by rw [upd_same, List.length_map], so _ _ upd_same⟩
          have sF := sj.trans (s2.trans (stc.trans so))
          have hv' := hv.same sF
          rw [show (ac y.B N).take (kk + 1) = (ac y.B N).take kk ++ [c] by rw [List.take_succ, hc]; rfl, lfC_snoc]
          generalize lfC g N ((ac y.B N).take kk) = bb at *
          have sAll := sg.trans sF
          cases bb with
          | none =>
            have hv2 : v = .non := hv'
            subst hv2
            exact ⟨_, rfl, rfl, true, rfl, _, rfl, .ref o, _, _, _, _, _, _, rfl, sAll, o, rfl, hLE⟩
          | some p =>
            obtain ⟨t9, rfl, hL9⟩ := hv'
            refine ⟨_, rfl, rfl, false, rfl, ?_⟩
            refine (if_neg (by decide)).mpr ?_
            have hlt : dataLt (rowOf (Wc g N N c, c.length, c)) (rowOf (Wc g N N p, p.length, p)) = HT.lexLt (fk g N N c) (fk g N N p) := dataLt_row _ _ _ _ _ _
            refine ⟨_, rfl, _, rfl, rowOf (Wc g N N c, c.length, c), rowOf (Wc g N N p, p.length, p), hLE.dp, hL9.dp, alike_row _ _ _ _ _ _, (fun z => nomatch z), by rw [depth_row]; decide, _, rfl, ?_⟩
            rw [hlt]
            refine ite2 (fun hc2 => ?_) (fun hc2 => ?_)
            · rw [pickC_yes (b := some p) hc2]
              exact ⟨_, rfl, .ref o, _, _, _, _, _, _, rfl, sAll, o, rfl, hLE⟩
            · rw [pickC_no (b := some p) hc2]
              exact ⟨_, rfl, .ref t9, _, _, _, _, _, _, rfl, sAll, t9, rfl, hL9⟩
      · rintro σ G ⟨v, x4, x5, x6, x7, x8, x9, rfl, sg, hv⟩
        rw [List.length_map, ht2, List.take_length] at hv
        exact ⟨v, _, _, _, _, _, _, rfl, sa.trans sg, hv⟩
    · rintro σ G ⟨v, x4, x5, x6, x7, x8, x9, rfl, sg, hv⟩
      rw [lfC_De g N y.B hB1] at hv
      obtain ⟨t, rfl, tc, hE1, hE2⟩ := hv
      have hcl := Cut_len (De_cut g N y.B hB1 N).1
      generalize (De g N y.B N).2.2 = cs at *
      refine ⟨_, rfl, t, _, 2, _, rfl, rfl, .inl (.inl hE1), by rfl, tc, rfl, ⟨_, .inl (.inl hE2)⟩, fun D hD => ?_⟩
      refine lc_tup (K := K) (a := tc) (xs := (ngs cs).map V.int) (fun i G' => Same G G' ∧ G' D = some (.lst ((cs.take i).map nI))) ⟨sNew hD, upd_same⟩ (fun i G' _ ⟨sg, _⟩ => .inl (.inl (sg _ _ hE2))) ?_ ?_
      · rintro i z G' hi ⟨sg, hD2⟩
        unfold ngs at hi
        rw [List.map_map, List.getElem?_map] at hi
        cases ec : cs[i]? with
        | none => rw [ec] at hi; cases hi
        | some c0 =>
          rw [ec] at hi
          have hz : V.int (-(c0 : Int)) = z := Option.some.inj hi
          subst hz
          have hil := (List.getElem?_eq_some_iff.mp ec).1
          refine ⟨rfl, ?_⟩
          simp only [tYes, if_true]
          refine ⟨_, rfl, _, rfl, _, hD2, by rw [List.length_map, List.length_take, sizeLine_eq]; omega, sPut sg hD, ?_⟩
          rw [upd_same, List.take_succ, ec, List.map_append]
          exact congrArg (fun z => some (HO.lst ((cs.take i).map nI ++ [V.int z]))) (Int.neg_neg (c0 : Int))
      · rintro G' ⟨sg2, hD2⟩
        have hll : ((ngs cs).map V.int).length = cs.length := by unfold ngs; simp
        rw [hll, List.take_length] at hD2
        exact ⟨D, _, rfl, .inl ⟨.inl (.inl hD2), fun p hp => k p _ ((s1.trans sg).trans (sg2.trans (sNew hp))) upd_same⟩⟩
end
end Wq
set_option Elab.async false
set_option linter.all false
set_option maxRecDepth 100000
set_option maxHeartbeats 4000000
namespace Wq
open PySem PySem.Spec PyProof.Rows L2
open SX (S S_len S_cat S_beq_eq)
abbrev sNF : Stmt := top 7
theorem scNF : FnScope ["figures", "many", "rest", "at"] ["figures"] (defScope sNF) := ⟨rfl, rfl, rfl, by decide +kernel, rfl, by decide +kernel, by decide +kernel⟩
structure TxtT (mg : Str → Option Value) : Prop where
  sg : ∃ t, mg "SHORT_FIGURES" = some (.int 3000 t)
  fg : ∃ t, mg "FIGURES" = some (.str (S [48, 49, 50, 51, 52, 53, 54, 55, 56, 57]) t)
def isD (c : Nat) : Bool := decide (48 ≤ c) && decide (c ≤ 57)
def spNF : Sp := fun vs H Q _ => ∃ a : List Nat, vs = [.str (S a)] ∧ a.all isD = true ∧ a ≠ [] ∧ a.length ≤ 600 ∧ Q (.int ((NumText.digitsVal a : Nat) : Int)) H
theorem pgi {X : Cx} {x : Str} {n : Int} {t : Tok} {pos : Pos} (hm : X.mg x = some (.int n t)) (hg : Gl X x := by rfl) (hd : (x == ("__debug__" : Str)) = false := by decide) : PE X (.Name x pos) (tC (.int n)) := pe_glob hg hm ⟨_, rfl⟩ hd
theorem pgs {X : Cx} {x : Str} {z : Str} {t : Tok} {pos : Pos} (hm : X.mg x = some (.str z t)) (hg : Gl X x := by rfl) (hd : (x == ("__debug__" : Str)) = false := by decide) : PE X (.Name x pos) (tC (.str z)) := pe_glob hg hm ⟨_, rfl⟩ hd
section
variable {P : Program} {w : World} {K : PySem.W.Frag} {mg : Str → Option Value} {base : Heap} {C : Addr}
theorem ok_NF (D : DefAt K mg "number_of" sNF) (T : Txt K mg) (TT : TxtT mg) : Cl P w K mg base 1 "number_of" spNF := by
  obtain ⟨tb, hb⟩ := TT.sg
  refine cl_of D scNF (fun vs H Q E h => ?_) (fun _ _ _ _ _ _ us hl => match us, hl with | [_], _ => rfl) (fun f cdv A outer s H vs Q E hr h => ?_)
  · obtain ⟨a, rfl, _⟩ := h
    rfl
  · obtain ⟨a, rfl, had, hne, hal, k⟩ := h
    refine ⟨_, pss_cons (ps_if (pt_cmpR op_le (pe_callB call_len_str (by rfl) (by exact T.len) PySem.boot_len (pa_cons (pv 0) pa_nil)) (pgi (by exact hb)) (nomark _))
(pss_one (ps_ret (pe_callTy call_int_str (by rfl) (by exact T.int) PyProof.Rows.boot_int (pa_cons (pv 0) pa_nil))))
pss_nil)
pss_never, ?_⟩
    refine ⟨_, rfl, _, rfl, by rw [S_len, sizeLine_eq]; omega, _, _, rfl, rfl, _, rfl, ?_⟩
    refine (if_pos (decide_eq_true (by rw [S_len]; omega))).mpr ?_
    exact ⟨_, rfl, S a, _, rfl, SX.int_S had hne (by omega), by rw [S_len]; omega, k⟩
end
/-! cuts of texts -/
theorem cutS_mid (l : List Nat) {i j : Nat} (h : i ≤ j) : cutS (S l) (some (i : Int)) (some (j : Int)) = S ((l.drop i).take (j - i)) := by
  unfold cutS
  rw [HT.sIx_nat, HT.sIx_nat, S_len]
  show S ((l.drop (min i l.length)).take (min j l.length - min i l.length)) = _
  congr 1
  by_cases hi : i ≤ l.length
  · rw [Nat.min_eq_left hi]
    by_cases hj : j ≤ l.length
    · rw [Nat.min_eq_left hj]
    · rw [Nat.min_eq_right (by omega), List.take_of_length_le (by rw [List.length_drop]; omega), List.take_of_length_le (by rw [List.length_drop]; omega)]
  · rw [Nat.min_eq_right (show l.length ≤ i by omega), List.drop_eq_nil_of_le (Nat.le_refl _), List.drop_eq_nil_of_le (by omega), List.take_nil, List.take_nil]
theorem cutS_to (l : List Nat) (j : Nat) : cutS (S l) none (some (j : Int)) = S (l.take j) := by
  have e := cutS_mid l (Nat.zero_le j)
  rw [List.drop_zero, Nat.sub_zero] at e
  rw [← e]
  rfl
theorem cutS_from (l : List Nat) (i : Nat) : cutS (S l) (some (i : Int)) none = S (l.drop i) := by
  unfold cutS
  rw [HT.sIx_nat, S_len]
  show S ((l.drop (min i l.length)).take (l.length - min i l.length)) = _
  congr 1
  by_cases hi : i ≤ l.length
  · rw [Nat.min_eq_left hi, List.take_of_length_le (by rw [List.length_drop]; omega)]
  · rw [Nat.min_eq_right (by omega), List.drop_eq_nil_of_le (Nat.le_refl _), List.drop_eq_nil_of_le (by omega), List.take_nil]
theorem dec_S (a b : List Nat) : decide (V.str (S a) = V.str (S b)) = decide (a = b) := by
  by_cases h : a = b
  · rw [h]; simp
  · rw [decide_eq_false h, decide_eq_false fun z => h (SX.S_inj (V.str.inj z))]
theorem take1 (l : List Nat) (i c : Nat) : ((l.drop i).take 1 = [c]) ↔ l[i]? = some c := by
  have e : (l.drop i)[0]? = l[i]? := by rw [List.getElem?_drop, Nat.add_zero]
  rw [← e]
  cases l.drop i with
  | nil => simp
  | cons a r => simp
theorem fig_in (c : Nat) : decide (c ∈ ([48, 49, 50, 51, 52, 53, 54, 55, 56, 57] : List Nat)) = isD c := by
  unfold isD
  by_cases h : 48 ≤ c ∧ c ≤ 57
  · rw [decide_eq_true h.1, decide_eq_true h.2]
    refine decide_eq_true ?_
    have : c = 48 ∨ c = 49 ∨ c = 50 ∨ c = 51 ∨ c = 52 ∨ c = 53 ∨ c = 54 ∨ c = 55 ∨ c = 56 ∨ c = 57 := by omega
    rcases this with h | h | h | h | h | h | h | h | h | h <;> rw [h] <;> decide
  · have e : (decide (48 ≤ c) && decide (c ≤ 57)) = false := by
      by_cases h1 : 48 ≤ c
      · rw [decide_eq_false (show ¬ c ≤ 57 by omega), Bool.and_false]
      · rw [decide_eq_false h1, Bool.false_and]
    rw [e]
    refine decide_eq_false fun hm => ?_
    simp at hm
    omega
end Wq
set_option Elab.async false
set_option linter.all false
set_option maxRecDepth 100000
set_option maxHeartbeats 4000000
namespace Wq
open PySem PySem.Spec PyProof.Rows L2
open SX (S S_len S_cat S_beq_eq)
/-- figures that begin a number up to a bound -/
def isBg (m : Nat) (a : List Nat) : Bool := a.all isD && ((decide (a = [48]) || !decide (a.head? = some 48)) && decide (NumText.digitsVal a ≤ m))
abbrev sIB : Stmt := top 16
theorem scIB : FnScope ["figures", "most", "sign"] ["figures", "most"] (defScope sIB) := ⟨rfl, rfl, rfl, by decide +kernel, rfl, by decide +kernel, by decide +kernel⟩
def spIB : Sp := fun vs H Q _ => ∃ (a : List Nat) (m : Nat), vs = [.str (S a), nI m] ∧ a ≠ [] ∧ a.length ≤ 500 ∧ ∀ H', Same H H' → Q (.bl (isBg m a)) H'
theorem S_list (a : List Nat) : (S a).cps.toList = a := by simp [S]
theorem S_get (a : List Nat) (i : Nat) : (S a).cps[i]? = a[i]? := by
  show (a.toArray)[i]? = a[i]?
  simp
section
variable {P : Program} {w : World} {K : PySem.W.Frag} {mg : Str → Option Value} {base : Heap} {C : Addr}
theorem ok_IB (D : DefAt K mg "is_beginning" sIB) (T : Txt K mg) (TT : TxtT mg) (CN : Cl P w K mg base 1 "number_of" spNF) : Cl P w K mg base 2 "is_beginning" spIB := by
  obtain ⟨tf, hf⟩ := TT.fg
  refine cl_of D scIB (fun vs H Q E h => ?_) (fun _ _ _ _ _ _ us hl => match us, hl with | [_, _], _ => rfl) (fun f cdv A outer s H vs Q E hr h => ?_)
  · obtain ⟨a, m, rfl, _⟩ := h
    rfl
  · obtain ⟨a, m, rfl, hne, hal, k⟩ := h
    refine ⟨_, pss_cons (ps_if (pt_cmpR op_gt (pe_callB call_len_seq (by rfl) (by exact T.len) PySem.boot_len (pa_cons (pe_lc (own := [("sign", 2)]) (g := gName 2) (by rfl) scIB.nd (pi_str (pv 0)) (blkOk_by (own := [("sign", 2)]) (N := ["figures", "most", "sign"]) (sc := defScope sIB) (by decide +kernel)) (fun _ _ _ _ _ => (pg_name (i := 2) scIB.nd rfl (Or.inl rfl))) (fun _ _ _ _ _ => (pts_one (pt_cmpR op_notIn_sign (pv 2) (pgs (by exact hf)) rfl))) (fun _ _ _ _ _ => (pv 2))) pa_nil)) pe_int (nomark _))
(pss_one (ps_ret pe_bl))
pss_nil)
(pss_one (ps_ret (pe_and (pe_or (pe_cmpR op_eq (pv 0) pe_str (nomark _)) (pe_one (pe_cmpR op_ne (pe_ix ix_str (pv 0) pe_int (fun _ _ => rfl)) pe_str (nomark _)))) (pe_one (pe_cmpR op_le (pe_cl CN hr (by decide) rfl (pa_cons (pv 0) pa_nil)) (pv 1) (nomark _)))))), ?_⟩
    refine ⟨_, rfl, S a, rfl, fun D hD => ?_⟩
    refine lc_it walk_str (fun j G => ∃ xs : List V, Same H G ∧ G D = some (.lst xs) ∧ xs.length ≤ j ∧ ((a.take j).all isD = decide (xs.length = 0))) ⟨[], sNew hD, upd_same, Nat.le_refl _, rfl⟩ (fun _ _ _ _ => trivial) ?_ ?_
    · rintro j y G G2 hj ⟨xs, sm, hD2, hxl, hxa⟩ ⟨rfl, c, hc, rfl⟩
      rw [S_get] at hc
      refine ⟨rfl, _, rfl, c, _, rfl, rfl, _, rfl, ?_⟩
      rw [S_list, fig_in]
      have hj2 := (List.getElem?_eq_some_iff.mp hc).1
      have htk : a.take (j + 1) = a.take j ++ [c] := by rw [List.take_succ, hc]; rfl
      refine ite2 (fun hb => ?_) (fun hb => ?_)
      · have hb : isD c = false := by simpa using hb
        refine ⟨_, rfl, xs, hD2, by rw [sizeLine_eq]; omega, xs ++ [.str ⟨#[c]⟩], sPut sm hD, upd_same, by rw [List.length_append]; show xs.length + 1 ≤ j + 1; omega, ?_⟩
        rw [htk, List.all_append, List.length_append]
        simp [hb]
      · have hb : isD c = true := by simpa using hb
        refine ⟨xs, sm, hD2, by omega, ?_⟩
        rw [htk, List.all_append, hxa]
        simp [hb]
    · rintro G ⟨xs, sm, hD2, hxl, hxa⟩
      have hsz : (S a).cps.size = a.length := S_len a
      rw [hsz, List.take_length] at hxa
      refine ⟨D, _, rfl, .inl (.inl (.inl hD2)), _, _, rfl, rfl, _, rfl, ?_⟩
      have kk := k G sm
      unfold isBg at kk
      refine ite2 (fun hc => ?_) (fun hc => ?_)
      · have hc : ¬ xs.length = 0 := by have := of_decide_eq_true hc; omega
        rw [hxa, decide_eq_false hc] at kk
        exact kk
      · have hc : xs.length = 0 := by
          by_cases z : xs.length = 0
          · exact z
          · exact absurd (decide_eq_true (show (0 : Int) < (xs.length : Int) by omega)) hc
        rw [decide_eq_true hc] at hxa
        rw [hxa] at kk
        have hd := hxa
        rw [Bool.true_and] at kk
        have l48 : V.str "0" = V.str (S [48]) := congrArg V.str (show ("0" : Str) = S [48] by decide +kernel)
        have hle : decide (((NumText.digitsVal a : Nat) : Int) ≤ ((m : Nat) : Int)) = decide (NumText.digitsVal a ≤ m) := decide_eq_decide.mpr (by omega)
        have e48 : decide (V.str (S a) = V.str "0") = decide (a = [48]) := by rw [l48]; exact dec_S a [48]
        refine ⟨_, rfl, rfl, _, rfl, ?_⟩
        rw [e48]
        refine ite2 (fun h1 => ?_) (fun h1 => ?_)
        · rw [h1] at kk
          refine ⟨true, rfl, (if_pos rfl).mpr ?_⟩
          refine ⟨_, rfl, a, rfl, hd, hne, by omega, _, rfl, _, _, rfl, rfl, ?_⟩
          rw [← hle] at kk
          exact kk
        · have h1 : decide (a = [48]) = false := by simpa using h1
          rw [h1, Bool.false_or] at kk
          cases a with
          | nil => exact absurd rfl hne
          | cons c r =>
            have ec : decide (V.str ⟨#[c]⟩ = V.str "0") = decide (c = 48) := by
              rw [l48]
              have := dec_S [c] [48]
              rw [show decide (([c] : List Nat) = [48]) = decide (c = 48) from decide_eq_decide.mpr (by simp)] at this
              exact this
            have eh : decide ((c :: r).head? = some 48) = decide (c = 48) := decide_eq_decide.mpr (by simp)
            rw [eh] at kk
            refine ⟨_, rfl, _, 0, c, rfl, rfl, by rw [S_len, sizeLine_eq]; omega, by rw [S_list]; exact atI_nat (j := 0) rfl, rfl, _, rfl, ?_⟩
            rw [ec]
            refine ite2 (fun h2 => ?_) (fun h2 => ?_)
            · rw [h2, Bool.true_and] at kk
              refine ⟨_, rfl, c :: r, rfl, hd, hne, by omega, _, rfl, _, _, rfl, rfl, ?_⟩
              rw [← hle] at kk
              exact kk
            · have h2 : (!decide (c = 48)) = false := by simpa using h2
              rw [h2, Bool.false_and] at kk
              exact kk
end
end Wq
set_option Elab.async false
set_option linter.all false
set_option maxRecDepth 100000
set_option maxHeartbeats 4000000
namespace Wq
open PySem PySem.Spec PyProof.Rows L2
open SX (S S_len S_cat S_beq_eq)
/-! parts of forms -/
inductive Pt where
  | lit (w : List Nat)
  | num (lo hi : Nat)
def lcp : List Nat → List Nat → Nat
  | a :: as, b :: bs => if a = b then lcp as bs + 1 else 0
  | _, _ => 0
/-- how many figures a number has -/
def gA (hi : Nat) (p : List Nat) : List Nat → Nat
  | [] => 0
  | c :: r => if isBg hi (p ++ [c]) = true then gA hi (p ++ [c]) r + 1 else 0
def rf (t : List Nat) : List Pt → Nat → List Nat → Nat × List Nat
  | [], at_, ns => (if at_ = t.length then t.length + 1 else at_, ns)
  | .lit w :: ps, at_, ns => if lcp w (t.drop at_) = w.length then rf t ps (at_ + w.length) ns else (at_ + lcp w (t.drop at_), ns)
  | .num lo hi :: ps, at_, ns => if gA hi [] (t.drop at_) = 0 ∨ NumText.digitsVal ((t.drop at_).take (gA hi [] (t.drop at_))) < lo then (at_, ns) else rf t ps (at_ + gA hi [] (t.drop at_)) (ns ++ [NumText.digitsVal ((t.drop at_).take (gA hi [] (t.drop at_)))])
theorem lcp_le : ∀ (a b : List Nat), lcp a b ≤ a.length ∧ lcp a b ≤ b.length
  | [], b => ⟨Nat.zero_le _, Nat.zero_le _⟩
  | a :: as, [] => ⟨Nat.zero_le _, Nat.zero_le _⟩
  | a :: as, b :: bs => by
    unfold lcp
    have := lcp_le as bs
    split
    · exact ⟨by show _ + 1 ≤ as.length + 1; omega, by show _ + 1 ≤ bs.length + 1; omega⟩
    · exact ⟨Nat.zero_le _, Nat.zero_le _⟩
theorem lcp_same (c : Nat) (a b : List Nat) : lcp (c :: a) (c :: b) = lcp a b + 1 := by simp [lcp]
theorem gA_yes {hi : Nat} {p r : List Nat} {c : Nat} (h : isBg hi (p ++ [c]) = true) : gA hi p (c :: r) = gA hi (p ++ [c]) r + 1 := by
  unfold gA
  rw [if_pos h]
  cases r <;> rfl
theorem gA_no {hi : Nat} {p r : List Nat} {c : Nat} (h : ¬ isBg hi (p ++ [c]) = true) : gA hi p (c :: r) = 0 := by
  unfold gA
  rw [if_neg h]
theorem gA_le (hi : Nat) : ∀ (p l : List Nat), gA hi p l ≤ l.length
  | p, [] => Nat.le_refl _
  | p, c :: r => by
    unfold gA
    split
    · have := gA_le hi (p ++ [c]) r
      show _ + 1 ≤ r.length + 1
      omega
    · exact Nat.zero_le _
theorem drop_cons {l : List Nat} {i c : Nat} (h : l[i]? = some c) : l.drop i = c :: l.drop (i + 1) := by
  have hi := (List.getElem?_eq_some_iff.mp h).1
  rw [List.drop_eq_getElem_cons hi]
  congr 1
  exact (List.getElem?_eq_some_iff.mp h).2
/-- what stands for the parts of a form -/
def StT (K : PySem.W.Frag) (n : Addr) (xs : List V) : Prop := ∃ (o : Obj) (its : Array Value) (m : Nat), K.lookup n = some o ∧ o.cls = .type "tuple" ∧ o.data = .seq its m ∧ its.size ≤ sizeLine ∧ Vals xs its.toList
theorem StT.sq {K : PySem.W.Frag} {n : Addr} {xs : List V} (h : StT K n xs) {H : Hp} : SqT K H n xs := .inr h
def PtV (K : PySem.W.Frag) (v : V) : Pt → Prop
  | .lit w => v = .str (S w)
  | .num lo hi => ∃ n, v = .ref n ∧ StT K n [nI lo, nI hi]
def FmV (K : PySem.W.Frag) : List V → List Pt → Prop
  | [], [] => True
  | v :: vs, p :: ps => PtV K v p ∧ FmV K vs ps
  | _, _ => False
theorem FmV.len {K : PySem.W.Frag} : ∀ {vs : List V} {ps : List Pt}, FmV K vs ps → vs.length = ps.length
  | [], [], _ => rfl
  | v :: vs, p :: ps, h => congrArg Nat.succ (FmV.len h.2)
theorem FmV.at {K : PySem.W.Frag} : ∀ {vs : List V} {ps : List Pt} {i : Nat} {v : V}, FmV K vs ps → vs[i]? = some v → ∃ p, ps[i]? = some p ∧ PtV K v p
  | [], [], i, v, _, e => by simp at e
  | x :: vs, p :: ps, 0, v, h, e => ⟨p, rfl, by simp at e; subst e; exact h.1⟩
  | x :: vs, p :: ps, i + 1, v, h, e => by
    obtain ⟨q, a, b⟩ := FmV.at (i := i) h.2 (by simpa using e)
    exact ⟨q, by simpa using a, b⟩
theorem FmV.app {K : PySem.W.Frag} : ∀ {vs us : List V} {ps qs : List Pt}, FmV K vs ps → FmV K us qs → FmV K (vs ++ us) (ps ++ qs)
  | [], us, [], qs, _, h => h
  | v :: vs, us, p :: ps, qs, h, h2 => ⟨h.1, FmV.app h.2 h2⟩
abbrev sRF : Stmt := top 15
abbrev NRF : List Str := ["text", "form", "at", "numbers", "part", "sign", "begin"]
theorem scRF : FnScope NRF ["text", "form"] (defScope sRF) := ⟨rfl, rfl, rfl, by decide +kernel, rfl, by decide +kernel, by decide +kernel⟩
def spRF (K : PySem.W.Frag) : Sp := fun vs H Q _ => ∃ (t : List Nat) (fo : Addr) (xs : List V) (ps : List Pt), vs = [.str (S t), .ref fo] ∧ SqT K H fo xs ∧ FmV K xs ps ∧ t.length ≤ 400 ∧ ps.length ≤ 100 ∧ (∀ w, Pt.lit w ∈ ps → w.length ≤ 100) ∧
  ∀ r np G, Same H G → G r = some (.tup [nI (rf t ps 0 []).1, .ref np]) → G np = some (.lst ((rf t ps 0 []).2.map nI)) → Q (.ref r) G
section
variable {P : Program} {w : World} {K : PySem.W.Frag} {mg : Str → Option Value} {base : Heap} {C : Addr}
theorem ok_RF (D : DefAt K mg "read_form" sRF) (T : Txt K mg) (TL : TxtL K mg C) (CN : Cl P w K mg base 1 "number_of" spNF) (CB : Cl P w K mg base 2 "is_beginning" spIB) : Cl P w K mg base 3 "read_form" (spRF K) := by
  refine cl_of D scRF (fun vs H Q E h => ?_) (fun _ _ _ _ _ _ us hl => match us, hl with | [_, _], _ => rfl) (fun f cdv A1 outer s H vs Q E hr h => ?_)
  · obtain ⟨t, fo, xs, ps, rfl, _⟩ := h
    rfl
  · obtain ⟨t, fo, xs, ps, rfl, hx, hF, htl, hpl, hwl, k⟩ := h
    refine ⟨_, pss_cons (ps_set (i := 2) scRF.nd rfl (Or.inl rfl) pe_int)
(pss_cons (ps_set (i := 3) scRF.nd rfl (Or.inl rfl) (pe_lst pa_nil))
(C8.pss_cut (ps_for PassesOwn.never rfl (pi_tup (pv 1)) (pg_name (i := 4) scRF.nd rfl (Or.inl rfl))
(pss_one (ps_if (pt_val (pe_callB call_isi (by rfl) (by exact TL.isi) (by decide +kernel) (pa_cons (pv 4) (pa_cons (pe_bltn rfl (by exact TL.str) (by decide +kernel) (v := .ty "str") rfl) pa_nil))))
(pss_one (ps_for PassesOwn.never rfl (pi_str (pv 4)) (pg_name (i := 5) scRF.nd rfl (Or.inl rfl))
(pss_cons (ps_if (pt_cmpR op_ne (pe_slice sl_str (pv 0) (po_some (pv 2)) (po_some (pe_op op_add (pv 2) pe_int))) (pv 5) (nomark _))
(pss_one (ps_ret (pe_tup (pa_cons (pv 2) (pa_cons (pv 3) pa_nil)))))
pss_nil)
(pss_one (ps_aug (i := 2) scRF.nd rfl (Or.inl rfl) pe_int ip_add)))))
(pss_cons (ps_set (i := 6) scRF.nd rfl (Or.inl rfl) (pv 2))
(C8.pss_cut (ps_while PassesOwn.never (PW.pt (pw_and (pt_cmpR op_lt (pv 2) (pe_callB call_len_str (by rfl) (by exact T.len) PySem.boot_len (pa_cons (pv 0) pa_nil)) (nomark _)) (pw_and1 (pt_val (pe_cl CB hr (by decide) rfl (pa_cons (pe_slice sl_str (pv 0) (po_some (pv 6)) (po_some (pe_op op_add (pv 2) pe_int))) (pa_cons (pe_ix ix_tup (pv 4) pe_int (fun _ _ => rfl)) pa_nil)))))))
(pss_one (ps_aug (i := 2) scRF.nd rfl (Or.inl rfl) pe_int ip_add)))
(pss_cons (ps_if (PW.pt (pw_or (pt_cmpR op_eq (pv 2) (pv 6) (nomark _)) (pw_or1 (pt_cmpR op_lt (pe_cl CN hr (by decide) rfl (pa_cons (pe_slice sl_str (pv 0) (po_some (pv 6)) (po_some (pv 2))) pa_nil)) (pe_ix ix_tup (pv 4) pe_int (fun _ _ => rfl)) (nomark _)))))
(pss_one (ps_ret (pe_tup (pa_cons (pv 6) (pa_cons (pv 3) pa_nil)))))
pss_nil)
(pss_one (ps_expr (pe_bm PySem.F.plainAttrs_list PySem.F.slot_list_append PySem.F.type_list_append mt_append (pv 3) (pa_cons (pe_cl CN hr (by decide) rfl (pa_cons (pe_slice sl_str (pv 0) (po_some (pv 6)) (po_some (pv 2))) pa_nil)) pa_nil))))))))))
(pss_one (ps_ret (pe_tup (pa_cons (pe_ifExp (pt_cmpR op_eq (pv 2) (pe_callB call_len_str (by rfl) (by exact T.len) PySem.boot_len (pa_cons (pv 0) pa_nil)) (nomark _)) (pe_op op_add (pe_callB call_len_str (by rfl) (by exact T.len) PySem.boot_len (pa_cons (pv 0) pa_nil)) pe_int) (pv 2)) (pa_cons (pv 3) pa_nil))))))), ?_⟩
    have hXL := hF.len
    have hzt : (S t).length ≤ sizeLine := by rw [S_len, sizeLine_eq]; omega
    refine ⟨by show 0 ≤ sizeLine; decide, fun np hnp => ?_⟩
    have s0 := sNew (o := .lst []) hnp
    have hR : rf t (ps.drop 0) 0 [] = rf t ps 0 [] := rfl
    generalize rf t ps 0 [] = R at *
    refine ⟨fun σ G => ∃ (at_ : Nat) (ns : List Nat) (x4 x5 x6 : Option V), σ = [some (.str (S t)), some (.ref fo), some (nI at_), some (.ref np), x4, x5, x6] ∧ Same H G ∧ G np = some (.lst (ns.map nI)) ∧ at_ ≤ t.length ∧ rf t [] at_ ns = R, ?_, ?_⟩
    · refine ⟨_, rfl, fo, rfl, ⟨_, SqT_same hx s0⟩, for_tup (K := K) (a := fo) (xs := xs) (fun j σ G => ∃ (at_ : Nat) (ns : List Nat) (x4 x5 x6 : Option V), σ = [some (.str (S t)), some (.ref fo), some (nI at_), some (.ref np), x4, x5, x6] ∧ Same H G ∧ G np = some (.lst (ns.map nI)) ∧ ns.length ≤ j ∧ at_ ≤ t.length ∧ rf t (ps.drop j) at_ ns = R)
        ⟨0, [], _, _, _, rfl, s0, upd_same, Nat.le_refl _, Nat.zero_le _, hR⟩ (fun j σ G _ ⟨_, _, _, _, _, _, sm, _⟩ => SqT_same hx sm) ?_ ?_⟩
      · rintro j v σ G hj ⟨at_, ns, x4, x5, x6, rfl, sm, hnl, hns, hat, hr1⟩
        obtain ⟨p, hp, hv⟩ := hF.at hj
        have hdp : ps.drop j = p :: ps.drop (j + 1) := by
          have hi := (List.getElem?_eq_some_iff.mp hp).1
          rw [List.drop_eq_getElem_cons hi]
          congr 1
          exact (List.getElem?_eq_some_iff.mp hp).2
        have hjl : j < ps.length := (List.getElem?_eq_some_iff.mp hp).1
        rw [hdp] at hr1
        cases p with
        | lit w =>
          have hv : v = .str (S w) := hv
          subst hv
          have hw := hwl w (List.mem_of_getElem? hp)
          refine ⟨_, rfl, .str (S w), .ty "str", _, _, _, rfl, .ty "str", .base (.str _), kit_ty (r := true) (by decide +kernel), true, rfl, ?_⟩
          refine (if_pos rfl).mpr ?_
          refine ⟨_, rfl, S w, rfl, for_it walk_str (fun k' σ G' => ∃ x5 : Option V, σ = [some (.str (S t)), some (.ref fo), some (nI (at_ + k')), some (.ref np), some (.str (S w)), x5, x6] ∧ G' = G ∧ at_ + k' ≤ t.length ∧ k' + lcp (w.drop k') (t.drop (at_ + k')) = lcp w (t.drop at_))
            ⟨_, rfl, rfl, hat, by rw [Nat.zero_add]; rfl⟩ (fun _ _ _ _ _ => trivial) ?_ ?_⟩
          · rintro k' y σ G1 G2 hk ⟨y5, rfl, rfl, hle, hlc⟩ ⟨rfl, c, hc, rfl⟩
            rw [S_get] at hc
            have hkw := (List.getElem?_eq_some_iff.mp hc).1
            have hdw := drop_cons hc
            refine ⟨_, rfl, _, rfl, _, rfl, _, rfl, _, _, rfl, rfl, _, rfl, S t, rfl, hzt, _, rfl, rfl, _, rfl, ?_⟩
            have hcut : cutS (S t) (some ((at_ + k' : Nat) : Int)) (some (((at_ + k' : Nat) : Int) + 1)) = S ((t.drop (at_ + k')).take 1) := by
              rw [show ((at_ + k' : Nat) : Int) + 1 = ((at_ + k' + 1 : Nat) : Int) by omega, cutS_mid t (by omega), show at_ + k' + 1 - (at_ + k') = 1 by omega]
            have hdec : decide (V.str (cutS (S t) (some ((at_ + k' : Nat) : Int)) (some (((at_ + k' : Nat) : Int) + 1))) = V.str ⟨#[c]⟩) = decide (t[at_ + k']? = some c) := by
              rw [hcut]
              have := dec_S ((t.drop (at_ + k')).take 1) [c]
              rw [show decide ((t.drop (at_ + k')).take 1 = [c]) = decide (t[at_ + k']? = some c) from decide_eq_decide.mpr (take1 t (at_ + k') c)] at this
              exact this
            rw [hdec]
            refine ite2 (fun hb => ?_) (fun hb => ?_)
            · have hb : ¬ t[at_ + k']? = some c := by simpa using hb
              have h0 : lcp (w.drop k') (t.drop (at_ + k')) = 0 := by
                rw [hdw]
                cases ht : t.drop (at_ + k') with
                | nil => rfl
                | cons d r =>
                  unfold lcp
                  have hd : t[at_ + k']? = some d := by
                    have : (t.drop (at_ + k'))[0]? = some d := by rw [ht]; rfl
                    rwa [List.getElem?_drop, Nat.add_zero] at this
                  rw [if_neg]
                  intro z
                  exact hb (by rw [hd, z])
              rw [h0, Nat.add_zero] at hlc
              unfold rf at hr1
              rw [← hlc, if_neg (show ¬ k' = w.length by omega)] at hr1
              subst hr1
              refine ⟨_, rfl, _, rfl, by show 2 ≤ sizeLine; decide, fun r hrr => ?_⟩
              have sr := sNew (o := .tup [nI (at_ + k'), .ref np]) hrr
              exact k r np _ (sm.trans sr) upd_same (sr _ _ hnl)
            · have hb : t[at_ + k']? = some c := by simpa using hb
              have htl2 := (List.getElem?_eq_some_iff.mp hb).1
              refine ⟨_, rfl, _, _, rfl, rfl, ?_⟩
              have e : ((at_ + k' : Nat) : Int) + 1 = ((at_ + (k' + 1) : Nat) : Int) := by omega
              refine ⟨some (.str ⟨#[c]⟩), congrArg (fun z => [some (V.str (S t)), some (.ref fo), some (V.int z), some (.ref np), some (.str (S w)), some (.str ⟨#[c]⟩), x6]) e, rfl, by omega, ?_⟩
              rw [hdw, drop_cons hb, lcp_same] at hlc
              rw [show at_ + (k' + 1) = at_ + k' + 1 by omega]
              omega
          · rintro σ G1 ⟨y5, rfl, rfl, hle, hlc⟩
            have hsz : (S w).cps.size = w.length := S_len w
            rw [hsz] at hle hlc ⊢
            rw [List.drop_length] at hlc
            have h0 : lcp [] (t.drop (at_ + w.length)) = 0 := rfl
            rw [h0] at hlc
            unfold rf at hr1
            rw [if_pos (by omega)] at hr1
            exact ⟨_, ns, _, _, _, rfl, sm, hnl, by omega, hle, hr1⟩
        | num lo hi =>
          obtain ⟨n, rfl, hn⟩ := hv
          obtain ⟨ob, its, mm, hn1, hn2, _⟩ := id hn
          refine ⟨_, rfl, .ref n, .ty "str", _, _, _, rfl, .ty "str", .kTuple hn1 hn2, kit_ty (r := false) (by decide +kernel), false, rfl, ?_⟩
          refine (if_neg (by decide)).mpr ?_
          refine ⟨_, rfl, ?_⟩
          unfold rf at hr1
          have hll : (t.drop at_).length = t.length - at_ := List.length_drop ..
          have hslice : ∀ m : Nat, cutS (S t) (some ((at_ : Nat) : Int)) (some (((at_ + m : Nat) : Int))) = S ((t.drop at_).take m) := fun m => by
            rw [cutS_mid t (by omega), show at_ + m - at_ = m by omega]
          generalize hl : t.drop at_ = l at *
          refine ⟨fun σ G' => σ = [some (.str (S t)), some (.ref fo), some (nI (at_ + gA hi [] l)), some (.ref np), some (.ref n), x5, some (nI at_)] ∧ Same G G' ∧ (gA hi [] l = 0 ∨ isBg hi (l.take (gA hi [] l)) = true), ?_, ?_⟩
          · refine ⟨fun z σ G' => ∃ m : Nat, σ = [some (.str (S t)), some (.ref fo), some (nI (at_ + m)), some (.ref np), some (.ref n), x5, some (nI at_)] ∧ Same G G' ∧ z = l.length - m ∧ m ≤ l.length ∧ m + gA hi (l.take m) (l.drop m) = gA hi [] l ∧ (m = 0 ∨ isBg hi (l.take m) = true), ⟨l.length, 0, rfl, .refl _, rfl, Nat.zero_le _, by rw [Nat.zero_add]; rfl, .inl rfl⟩, ?_⟩
            rintro z σ G' ⟨m, rfl, sg, rfl, hml, hga, hbg⟩
            refine ⟨_, rfl, _, rfl, S t, rfl, hzt, _, _, rfl, rfl, _, rfl, ?_⟩
            have hSt : (S t).length = t.length := S_len t
            refine ite2 (fun hc => ?_) (fun hc => ?_)
            · have hc : m < l.length := by have := of_decide_eq_true hc; omega
              obtain ⟨c, hcc⟩ : ∃ c, l[m]? = some c := ⟨l[m], List.getElem?_eq_getElem hc⟩
              have htk : l.take (m + 1) = l.take m ++ [c] := by rw [List.take_succ, hcc]; rfl
              rw [drop_cons hcc] at hga
              refine ⟨_, rfl, _, rfl, _, rfl, _, rfl, _, _, rfl, rfl, _, rfl, S t, rfl, hzt, _, rfl, n, _, 1, _, rfl, rfl, hn.sq, by rfl, l.take (m + 1), hi, ?_, ?_, ?_, fun G2 s2 => ⟨_, rfl, ?_⟩⟩
              · have e := hslice (m + 1)
                rw [show ((at_ + (m + 1) : Nat) : Int) = ((at_ + m : Nat) : Int) + 1 by omega] at e
                exact congrArg (fun z => [V.str z, nI hi]) e
              · rw [htk]; simp
              · rw [List.length_take]; omega
              · refine ite2 (fun hb => ?_) (fun hb => ?_)
                · have hb2 := hb
                  rw [htk] at hb2
                  rw [gA_yes hb2] at hga
                  refine ⟨_, fun σ' H' h => h, _, rfl, _, _, rfl, rfl, ?_⟩
                  refine ⟨l.length - (m + 1), by omega, m + 1, ?_, sg.trans s2, rfl, by omega, by rw [htk]; omega, .inr hb⟩
                  have e : ((at_ + m : Nat) : Int) + 1 = ((at_ + (m + 1) : Nat) : Int) := by omega
                  exact congrArg (fun z => [some (V.str (S t)), some (.ref fo), some (V.int z), some (.ref np), some (.ref n), x5, some (nI at_)]) e
                · have hb2 := hb
                  rw [htk] at hb2
                  rw [gA_no hb2, Nat.add_zero] at hga
                  subst hga
                  exact ⟨rfl, sg.trans s2, hbg⟩
            · have hc : m = l.length := by
                by_cases z : m = l.length
                · exact z
                · exact absurd (decide_eq_true (show ((at_ + m : Nat) : Int) < ((S t).length : Int) by omega)) hc
              rw [hc, List.drop_length] at hga
              have hg0 : gA hi (l.take l.length) [] = 0 := rfl
              rw [hg0, Nat.add_zero] at hga
              rw [hc, hga] at hbg
              rw [hc, hga]
              exact ⟨rfl, sg, hbg⟩
          · rintro σ G' ⟨rfl, sg, hbg⟩
            have hgl := gA_le hi [] l
            have hm0 := hslice (gA hi [] l)
            generalize gA hi [] l = m at *
            have sA := sm.trans sg
            refine ⟨_, rfl, _, rfl, rfl, _, rfl, ?_⟩
            have e0 : decide (V.int ((at_ + m : Nat) : Int) = V.int ((at_ : Nat) : Int)) = decide (m = 0) := by
              refine decide_eq_decide.mpr ⟨fun z => ?_, fun z => by rw [z]; rfl⟩
              have := V.int.inj z
              omega
            rw [e0]
            have fin : ∀ ret : (nI at_ = nI at_), (at_, ns) = R → ∀ r G3, Same G' G3 → G3 r = some (.tup [nI at_, .ref np]) → Q (.ref r) G3 := fun _ eR r G3 s3 hr3 => by
              subst eR
              exact k r np G3 (sA.trans s3) hr3 (s3 _ _ (sg _ _ hnl))
            refine ite2 (fun hz => ?_) (fun hz => ?_)
            · have hz : m = 0 := of_decide_eq_true hz
              rw [if_pos (.inl hz)] at hr1
              exact ⟨_, rfl, _, rfl, by show 2 ≤ sizeLine; decide, fun r hrr => fin rfl hr1 r _ (sNew hrr) upd_same⟩
            · have hz : ¬ m = 0 := fun z => hz (decide_eq_true z)
              have hbg := hbg.resolve_left hz
              have hda : (l.take m).all isD = true := by
                unfold isBg at hbg
                exact (Bool.and_eq_true_iff.mp hbg).1
              have hne : l.take m ≠ [] := fun z => by
                have h1 : (l.take m).length = 0 := by rw [z]; rfl
                rw [List.length_take] at h1
                omega
              have hlt : (l.take m).length ≤ 600 := by rw [List.length_take]; omega
              refine ⟨_, rfl, _, rfl, _, rfl, _, rfl, _, rfl, S t, rfl, hzt, l.take m, congrArg (fun z => [V.str z]) hm0, hda, hne, hlt, _, rfl, n, _, 0, _, rfl, rfl, hn.sq, by rfl, _, _, rfl, rfl, _, rfl, ?_⟩
              have e1 : decide (((NumText.digitsVal (l.take m) : Nat) : Int) < ((lo : Nat) : Int)) = decide (NumText.digitsVal (l.take m) < lo) := decide_eq_decide.mpr (by omega)
              rw [e1]
              refine ite2 (fun hb => ?_) (fun hb => ?_)
              · have hb := of_decide_eq_true hb
                rw [if_pos (.inr hb)] at hr1
                exact ⟨_, rfl, _, rfl, by show 2 ≤ sizeLine; decide, fun r hrr => fin rfl hr1 r _ (sNew hrr) upd_same⟩
              · have hb := fun z => hb (decide_eq_true z)
                rw [if_neg (fun z => z.elim hz hb)] at hr1
                have hnl2 := sg _ _ hnl
                refine ⟨_, rfl, .inl ⟨rfl, _, .inl (.inl hnl2)⟩, _, rfl, _, rfl, _, rfl, _, rfl, _, rfl, S t, rfl, hzt, l.take m, congrArg (fun z => [V.str z]) hm0, hda, hne, hlt, np, _, _, rfl, rfl, hnl2, by rw [List.length_map, sizeLine_eq]; omega, ?_⟩
                exact ⟨at_ + m, ns ++ [NumText.digitsVal (l.take m)], _, _, _, rfl, sPut sA hnp, by rw [upd_same, List.map_append]; rfl, by rw [List.length_append]; show ns.length + 1 ≤ j + 1; omega, by omega, hr1⟩
      · rintro σ G ⟨at_, ns, x4, x5, x6, rfl, sm, hnl, hns, hat, hr1⟩
        rw [hXL, List.drop_length] at hr1
        exact ⟨at_, ns, _, _, _, rfl, sm, hnl, hat, hr1⟩
    · rintro σ G ⟨at_, ns, x4, x5, x6, rfl, sm, hnl, hat, hr1⟩
      unfold rf at hr1
      refine ⟨_, rfl, _, rfl, S t, rfl, hzt, rfl, _, rfl, ?_⟩
      have hSt : (S t).length = t.length := S_len t
      have e0 : decide (V.int ((at_ : Nat) : Int) = V.int (((S t).length : Nat) : Int)) = decide (at_ = t.length) := by
        refine decide_eq_decide.mpr ⟨fun z => ?_, fun z => by rw [z, hSt]⟩
        have := V.int.inj z
        omega
      rw [e0]
      refine ite2 (fun hz => ?_) (fun hz => ?_)
      · have hz : at_ = t.length := of_decide_eq_true hz
        rw [if_pos hz] at hr1
        subst hr1
        refine ⟨_, rfl, S t, rfl, hzt, _, _, rfl, rfl, _, rfl, by show 2 ≤ sizeLine; decide, fun r hrr => ?_⟩
        refine k r np _ (sm.trans (sNew hrr)) ?_ (sNew hrr _ _ hnl)
        rw [upd_same]
        have e : (((S t).length : Nat) : Int) + 1 = ((t.length + 1 : Nat) : Int) := by omega
        exact congrArg (fun z => some (HO.tup [V.int z, .ref np])) e
      · have hz : ¬ at_ = t.length := fun z => hz (decide_eq_true z)
        rw [if_neg hz] at hr1
        subst hr1
        exact ⟨_, rfl, _, rfl, by show 2 ≤ sizeLine; decide, fun r hrr => k r np _ (sm.trans (sNew hrr)) upd_same (sNew hrr _ _ hnl)⟩
end
end Wq
set_option Elab.async false
set_option linter.all false
set_option maxRecDepth 100000
set_option maxHeartbeats 4000000
namespace Wq
open PySem PySem.Spec PyProof.Rows L2
open SX (S S_len S_cat S_beq_eq)
/-! the text of a layout, and how it is read -/
def cBlk : Bool → List Nat
  | false => [98, 108, 111, 99, 107, 115, 32, 111, 102, 32]
  | true => [98, 108, 111, 99, 107, 115, 32, 102, 114, 101, 101, 32, 116, 111, 32]
def cExc : List Nat := [10, 101, 120, 99, 101, 112, 116, 105, 111, 110, 115, 32]
def cOf : List Nat := [32, 111, 102, 32]
def cBits : List Nat := [32, 98, 105, 116, 115]
def cHead : List Nat := [10, 104, 101, 97, 100, 32]
def tEx (E X : Nat) : List Nat := if 0 < E then cExc ++ (TL.numL E ++ (cOf ++ (TL.numL X ++ cBits))) else []
def tHd (hd : Int) : List Nat := if 0 ≤ hd then cHead ++ (TL.numL hd.toNat ++ cBits) else []
def Tx (y : Ly) (hd : Int) : List Nat := cBlk y.fr ++ (TL.numL y.B ++ (tEx y.E y.X ++ tHd hd))
def pExc : Bool → List Pt
  | false => []
  | true => [.lit cExc, .num 1 4, .lit cOf, .num 1 24, .lit cBits]
def pHd : Bool → List Pt
  | false => []
  | true => [.lit cHead, .num 0 64, .lit cBits]
def fmP (fr ex he : Bool) : List Pt := [.lit (cBlk fr), .num 1 16] ++ (pExc ex ++ pHd he)
theorem lcp_pre : ∀ (w r : List Nat), lcp w (w ++ r) = w.length
  | [], r => by cases r <;> rfl
  | a :: w, r => by
    rw [List.cons_append, lcp_same, lcp_pre w r]
    rfl
theorem rf_lit {t pre w r : List Nat} {ps : List Pt} {ns : List Nat} (h : t = pre ++ (w ++ r)) : rf t (.lit w :: ps) pre.length ns = rf t ps (pre ++ w).length ns := by
  have e : t.drop pre.length = w ++ r := by rw [h, List.drop_left]
  rw [rf, e, lcp_pre, if_pos rfl, List.length_append]
theorem rf_litN {t pre w r : List Nat} {ps : List Pt} {ns : List Nat} (h : t = pre ++ r) (hn : lcp w r ≠ w.length) : (rf t (.lit w :: ps) pre.length ns).1 ≤ t.length := by
  have e : t.drop pre.length = r := by rw [h, List.drop_left]
  rw [rf, e, if_neg hn]
  have := (lcp_le w r).2
  show pre.length + lcp w r ≤ t.length
  rw [h, List.length_append]
  omega
theorem rf_end {t : List Nat} {ns : List Nat} : rf t [] t.length ns = (t.length + 1, ns) := by
  rw [rf, if_pos rfl]
theorem rf_endN {t pre r : List Nat} {ns : List Nat} (h : t = pre ++ r) (hr : r ≠ []) : (rf t [] pre.length ns).1 ≤ t.length := by
  have hl : 0 < r.length := List.length_pos_iff.mpr hr
  rw [rf, if_neg (by rw [h, List.length_append]; omega)]
  show pre.length ≤ t.length
  rw [h, List.length_append]
  omega
/-- what follows a number -/
def Stop (r : List Nat) : Prop := r = [] ∨ ∃ c r', r = c :: r' ∧ isD c = false
theorem isD_fig {k : Nat} (h : k < 10) : isD (48 + k) = true := by
  unfold isD
  simp
  omega
theorem gA_stop {hi : Nat} {p r : List Nat} (h : Stop r) : gA hi p r = 0 := by
  rcases h with h | ⟨c, r', h, hc⟩
  · subst h; rfl
  · subst h
    refine gA_no ?_
    unfold isBg
    rw [List.all_append]
    simp [hc]
theorem isBg_num {hi n : Nat} (h : n ≤ hi) (hn : n < 100) : isBg hi (TL.numL n) = true := by
  unfold isBg
  rw [TL.numL_val]
  by_cases h9 : n < 10
  · rw [TL.numL_lt h9]
    simp [isD_fig h9, h]
  · rw [TL.numL_step (by omega), TL.numL_lt (show n / 10 < 10 by omega)]
    simp [isD_fig (show n / 10 < 10 by omega), isD_fig (show n % 10 < 10 by omega), h]
    omega
theorem gA_num {hi n : Nat} {r : List Nat} (h : n ≤ hi) (hn : n < 100) (hr : Stop r) : gA hi [] (TL.numL n ++ r) = (TL.numL n).length := by
  have hb := isBg_num h hn
  by_cases h9 : n < 10
  · rw [TL.numL_lt h9] at hb ⊢
    show gA hi [] ((48 + n) :: r) = 1
    rw [gA_yes hb, gA_stop hr]
  · have hb1 := isBg_num (hi := hi) (n := n / 10) (by omega) (by omega)
    rw [TL.numL_step (show 10 ≤ n by omega), TL.numL_lt (show n / 10 < 10 by omega)] at hb ⊢
    rw [TL.numL_lt (show n / 10 < 10 by omega)] at hb1
    show gA hi [] ((48 + n / 10) :: (48 + n % 10) :: r) = 2
    rw [gA_yes hb1, List.nil_append, gA_yes hb, gA_stop hr]
theorem rf_num {t pre r : List Nat} {n lo hi : Nat} {ps : List Pt} {ns : List Nat} (h : t = pre ++ (TL.numL n ++ r)) (h1 : lo ≤ n) (h2 : n ≤ hi) (hn : n < 100) (hr : Stop r) : rf t (.num lo hi :: ps) pre.length ns = rf t ps (pre ++ TL.numL n).length (ns ++ [n]) := by
  have e : t.drop pre.length = TL.numL n ++ r := by rw [h, List.drop_left]
  have hl : 0 < (TL.numL n).length := List.length_pos_iff.mpr (TL.numL_ne n)
  rw [rf, e, gA_num h2 hn hr, List.take_left, TL.numL_val, if_neg (by omega), List.length_append]
theorem stop_tl (r : List Nat) {c : Nat} (h : isD c = false) : Stop (c :: r) := .inr ⟨c, r, rfl, h⟩
theorem stop_hd (hd : Int) : Stop (tHd hd) := by
  unfold tHd
  split
  · exact stop_tl _ (by decide)
  · exact .inl rfl
theorem stop_eh (E X : Nat) (hd : Int) : Stop (tEx E X ++ tHd hd) := by
  unfold tEx
  split
  · exact stop_tl _ (by decide)
  · exact stop_hd hd
structure PaOk (y : Ly) (hd : Int) : Prop where
  ok : y.Ok
  ex : 0 < y.E → 1 ≤ y.X
  h64 : hd ≤ 64
  ho : HdOk y hd
def nsOf (y : Ly) (hd : Int) : List Nat := [y.B] ++ ((if 0 < y.E then [y.E, y.X] else []) ++ (if 0 ≤ hd then [hd.toNat] else []))
def exB (y : Ly) : Bool := decide (0 < y.E)
def heB (hd : Int) : Bool := decide (0 ≤ hd)
/-- the beginning of any form of the right kind -/
theorem rf_begin {y : Ly} {hd : Int} (h : PaOk y hd) (ps : List Pt) : rf (Tx y hd) ([.lit (cBlk y.fr), .num 1 16] ++ ps) 0 [] = rf (Tx y hd) ps (cBlk y.fr ++ TL.numL y.B).length [y.B] := by
  have ok := h.ok
  have e1 := rf_lit (t := Tx y hd) (pre := []) (w := cBlk y.fr) (r := TL.numL y.B ++ (tEx y.E y.X ++ tHd hd)) (ps := .num 1 16 :: ps) (ns := []) rfl
  have e2 := rf_num (t := Tx y hd) (pre := cBlk y.fr) (n := y.B) (r := tEx y.E y.X ++ tHd hd) (lo := 1) (hi := 16) (ps := ps) (ns := []) rfl ok.b1 ok.b16 (by have := ok.b16; omega) (stop_eh _ _ _)
  rw [List.nil_append] at e1
  exact e1.trans e2
theorem rf_exc {y : Ly} {hd : Int} (h : PaOk y hd) (he : 0 < y.E) (ps : List Pt) (ns : List Nat) : ∃ pre, Tx y hd = pre ++ tHd hd ∧ rf (Tx y hd) ([.lit cExc, .num 1 4, .lit cOf, .num 1 24, .lit cBits] ++ ps) (cBlk y.fr ++ TL.numL y.B).length ns = rf (Tx y hd) ps pre.length (ns ++ [y.E, y.X]) := by
  have ok := h.ok
  have hT : Tx y hd = (cBlk y.fr ++ TL.numL y.B) ++ (cExc ++ (TL.numL y.E ++ (cOf ++ (TL.numL y.X ++ (cBits ++ tHd hd))))) := by
    unfold Tx tEx
    rw [if_pos he]
    simp only [List.append_assoc]
  generalize hp : cBlk y.fr ++ TL.numL y.B = p at *
  have e1 := rf_lit (t := Tx y hd) (pre := p) (w := cExc) (ps := [.num 1 4, .lit cOf, .num 1 24, .lit cBits] ++ ps) (ns := ns) hT
  have e2 := rf_num (t := Tx y hd) (pre := p ++ cExc) (n := y.E) (lo := 1) (hi := 4) (ps := [.lit cOf, .num 1 24, .lit cBits] ++ ps) (ns := ns) (r := cOf ++ (TL.numL y.X ++ (cBits ++ tHd hd))) (by rw [hT]; simp only [List.append_assoc]) he ok.e (by have := ok.e; omega) (stop_tl _ (by decide))
  have e3 := rf_lit (t := Tx y hd) (pre := p ++ cExc ++ TL.numL y.E) (w := cOf) (ps := [.num 1 24, .lit cBits] ++ ps) (ns := ns ++ [y.E]) (r := TL.numL y.X ++ (cBits ++ tHd hd)) (by rw [hT]; simp only [List.append_assoc])
  have e4 := rf_num (t := Tx y hd) (pre := p ++ cExc ++ TL.numL y.E ++ cOf) (n := y.X) (lo := 1) (hi := 24) (ps := [.lit cBits] ++ ps) (ns := ns ++ [y.E]) (r := cBits ++ tHd hd) (by rw [hT]; simp only [List.append_assoc]) (h.ex he) ok.x (by have := ok.x; omega) (stop_tl _ (by decide))
  have e5 := rf_lit (t := Tx y hd) (pre := p ++ cExc ++ TL.numL y.E ++ cOf ++ TL.numL y.X) (w := cBits) (ps := ps) (ns := ns ++ [y.E] ++ [y.X]) (r := tHd hd) (by rw [hT]; simp only [List.append_assoc])
  refine ⟨p ++ cExc ++ TL.numL y.E ++ cOf ++ TL.numL y.X ++ cBits, by rw [hT]; simp only [List.append_assoc], ?_⟩
  have e := e1.trans (e2.trans (e3.trans (e4.trans e5)))
  rw [show ns ++ [y.E] ++ [y.X] = ns ++ [y.E, y.X] by simp] at e
  exact e
theorem rf_head {y : Ly} {hd : Int} (h : PaOk y hd) (h0 : 0 ≤ hd) {pre : List Nat} (hT : Tx y hd = pre ++ tHd hd) (ns : List Nat) : rf (Tx y hd) [.lit cHead, .num 0 64, .lit cBits] pre.length ns = ((Tx y hd).length + 1, ns ++ [hd.toNat]) := by
  have hT2 : Tx y hd = pre ++ (cHead ++ (TL.numL hd.toNat ++ (cBits ++ []))) := by
    rw [hT]
    unfold tHd
    rw [if_pos h0, List.append_nil]
  have h64 := h.h64
  have e1 := rf_lit (t := Tx y hd) (pre := pre) (w := cHead) (ps := [.num 0 64, .lit cBits]) (ns := ns) hT2
  have e2 := rf_num (t := Tx y hd) (pre := pre ++ cHead) (n := hd.toNat) (lo := 0) (hi := 64) (ps := [.lit cBits]) (ns := ns) (r := cBits ++ []) (by rw [hT2]; simp only [List.append_assoc]) (Nat.zero_le _) (by omega) (by omega) (stop_tl _ (by decide))
  have e3 := rf_lit (t := Tx y hd) (pre := pre ++ cHead ++ TL.numL hd.toNat) (w := cBits) (ps := []) (ns := ns ++ [hd.toNat]) (r := []) (by rw [hT2]; simp only [List.append_assoc])
  have e4 : (pre ++ cHead ++ TL.numL hd.toNat ++ cBits) = Tx y hd := by rw [hT2]; simp only [List.append_assoc, List.append_nil]
  rw [e4, rf_end] at e3
  exact e1.trans (e2.trans e3)
/-- the right form reads it -/
theorem rf_right {y : Ly} {hd : Int} (h : PaOk y hd) : rf (Tx y hd) (fmP y.fr (exB y) (heB hd)) 0 [] = ((Tx y hd).length + 1, nsOf y hd) := by
  unfold fmP
  rw [rf_begin h]
  by_cases he : 0 < y.E
  · obtain ⟨pre, hT, e⟩ := rf_exc h he (pHd (heB hd)) [y.B]
    have e1 : exB y = true := decide_eq_true he
    rw [e1]
    show rf (Tx y hd) ([.lit cExc, .num 1 4, .lit cOf, .num 1 24, .lit cBits] ++ pHd (heB hd)) _ _ = _
    rw [e]
    by_cases h0 : 0 ≤ hd
    · have e2 : heB hd = true := decide_eq_true h0
      rw [e2]
      show rf (Tx y hd) [.lit cHead, .num 0 64, .lit cBits] _ _ = _
      rw [rf_head h h0 hT]
      unfold nsOf
      rw [if_pos he, if_pos h0]
      rfl
    · have e2 : heB hd = false := decide_eq_false h0
      rw [e2]
      have hn : tHd hd = [] := by unfold tHd; rw [if_neg h0]
      rw [hn, List.append_nil] at hT
      show rf (Tx y hd) [] _ _ = _
      rw [← hT, rf_end]
      unfold nsOf
      rw [if_pos he, if_neg h0]
      rfl
  · have e1 : exB y = false := decide_eq_false he
    have hx : tEx y.E y.X = [] := by unfold tEx; rw [if_neg he]
    have hT : Tx y hd = (cBlk y.fr ++ TL.numL y.B) ++ tHd hd := by unfold Tx; rw [hx]; simp only [List.append_assoc, List.nil_append]
    rw [e1]
    show rf (Tx y hd) (pHd (heB hd)) _ _ = _
    by_cases h0 : 0 ≤ hd
    · have e2 : heB hd = true := decide_eq_true h0
      rw [e2]
      show rf (Tx y hd) [.lit cHead, .num 0 64, .lit cBits] _ _ = _
      rw [rf_head h h0 hT]
      unfold nsOf
      rw [if_neg he, if_pos h0]
      rfl
    · have e2 : heB hd = false := decide_eq_false h0
      have hn : tHd hd = [] := by unfold tHd; rw [if_neg h0]
      rw [hn, List.append_nil] at hT
      rw [e2]
      show rf (Tx y hd) [] _ _ = _
      rw [← hT, rf_end]
      unfold nsOf
      rw [if_neg he, if_neg h0]
      rfl
/-- forms that come ahead of it do not -/
theorem rf_wrong {y : Ly} {hd : Int} (h : PaOk y hd) (fr ex he : Bool) (hw : (fr = false ∧ y.fr = true) ∨ (fr = y.fr ∧ ((ex = false ∧ exB y = true) ∨ (ex = exB y ∧ he = false ∧ heB hd = true)))) : (rf (Tx y hd) (fmP fr ex he) 0 []).1 ≤ (Tx y hd).length := by
  rcases hw with ⟨rfl, hf⟩ | ⟨rfl, hw⟩
  · unfold fmP
    refine rf_litN (t := Tx y hd) (pre := []) (w := cBlk false) (r := Tx y hd) rfl ?_
    unfold Tx
    rw [hf]
    intro z
    cases z
  · unfold fmP
    rw [rf_begin h]
    rcases hw with ⟨rfl, he1⟩ | ⟨rfl, rfl, hh⟩
    · have hE : 0 < y.E := of_decide_eq_true he1
      have hT : Tx y hd = (cBlk y.fr ++ TL.numL y.B) ++ (tEx y.E y.X ++ tHd hd) := by unfold Tx; simp only [List.append_assoc]
      have hne : tEx y.E y.X ++ tHd hd ≠ [] := by
        unfold tEx
        rw [if_pos hE]
        intro z
        cases z
      cases he with
      | false => exact rf_endN hT hne
      | true =>
        refine rf_litN hT ?_
        unfold tEx
        rw [if_pos hE]
        intro z
        cases z
    · have h0 : 0 ≤ hd := of_decide_eq_true hh
      have hne : tHd hd ≠ [] := by
        unfold tHd
        rw [if_pos h0]
        intro z
        cases z
      by_cases hE : 0 < y.E
      · obtain ⟨pre, hT, e⟩ := rf_exc h hE [] [y.B]
        have e1 : exB y = true := decide_eq_true hE
        rw [e1]
        show (rf (Tx y hd) ([.lit cExc, .num 1 4, .lit cOf, .num 1 24, .lit cBits] ++ []) _ _).1 ≤ _
        rw [e]
        exact rf_endN hT hne
      · have e1 : exB y = false := decide_eq_false hE
        have hx : tEx y.E y.X = [] := by unfold tEx; rw [if_neg hE]
        have hT : Tx y hd = (cBlk y.fr ++ TL.numL y.B) ++ tHd hd := by unfold Tx; rw [hx]; simp only [List.append_assoc, List.nil_append]
        rw [e1]
        exact rf_endN hT hne
theorem num_len2 {n : Nat} (h : n < 100) : (TL.numL n).length ≤ 2 := TL.numL_len (by decide) h
theorem Tx_len {y : Ly} {hd : Int} (h : PaOk y hd) : (Tx y hd).length ≤ 100 := by
  have ok := h.ok
  have h1 := num_len2 (show y.B < 100 by have := ok.b16; omega)
  have h2 := num_len2 (show y.E < 100 by have := ok.e; omega)
  have h3 := num_len2 (show y.X < 100 by have := ok.x; omega)
  have h4 := num_len2 (show hd.toNat < 100 by have := h.h64; omega)
  have h5 : (cBlk y.fr).length ≤ 15 := by cases y.fr <;> decide
  have h6 : (tEx y.E y.X).length ≤ 30 := by
    unfold tEx
    split
    · simp only [List.length_append]
      have : cExc.length = 12 := rfl
      have : cOf.length = 4 := rfl
      have : cBits.length = 5 := rfl
      omega
    · exact Nat.zero_le _
  have h7 : (tHd hd).length ≤ 20 := by
    unfold tHd
    split
    · simp only [List.length_append]
      have : cHead.length = 6 := rfl
      have : cBits.length = 5 := rfl
      omega
    · exact Nat.zero_le _
  unfold Tx
  simp only [List.length_append]
  omega
end Wq
set_option Elab.async false
set_option linter.all false
set_option maxRecDepth 100000
set_option maxHeartbeats 4000000
namespace Wq
open PySem PySem.Spec PyProof.Rows L2
open SX (S S_len S_cat S_beq_eq)
section
variable {X : Cx} {e : Expr} {t1 t2 : TG}
def gOr (t1 t2 : TG) : TG := fun v σ H Q => t1 v σ H Q ∨ t2 v σ H Q
theorem pg_alt (h1 : PG X e t1) (h2 : PG X e t2) : PG X e (gOr t1 t2) := ⟨fun pins s σ H v u Q I r q => q.elim (h1.run pins s σ H v u Q I r) (h2.run pins s σ H v u Q I r)⟩
end
abbrev sTL : Stmt := top 14
theorem scTL : FnScope ["is_free", "numbers", "is_excepting", "is_heading", "exceptions", "wide"] ["is_free", "numbers", "is_excepting", "is_heading"] (defScope sTL) := ⟨rfl, rfl, rfl, by decide +kernel, rfl, by decide +kernel, by decide +kernel⟩
/-- the five numbers of a layout -/
def five (y : Ly) : List V := [.bl y.fr, nI y.B, nI y.E, nI y.X, nI y.H]
structure PaX (y : Ly) (hd : Int) : Prop extends PaOk y hd where
  x0 : ¬ 0 < y.E → y.X = 0
def spTL (K : PySem.W.Frag) : Sp := fun vs H Q _ => ∃ (y : Ly) (hd : Int) (np : Addr), vs = [.bl y.fr, .ref np, .bl (exB y), .bl (heB hd)] ∧ PaX y hd ∧ H np = some (.lst ((nsOf y hd).map nI)) ∧ ∀ r G, Same H G → G r = some (.tup (five y)) → Q (.ref r) G
section
variable {P : Program} {w : World} {K : PySem.W.Frag} {mg : Str → Option Value} {base : Heap} {C : Addr}
theorem ok_TL (D : DefAt K mg "told_layout" sTL) (T : Txt K mg) : Cl P w K mg base 1 "told_layout" (spTL K) := by
  refine cl_of D scTL (fun vs H Q E h => ?_) (fun _ _ _ _ _ _ us hl => match us, hl with | [_, _, _, _], _ => rfl) (fun f cdv A1 outer s H vs Q E hr h => ?_)
  · obtain ⟨y, hd, np, rfl, _⟩ := h
    rfl
  · obtain ⟨y, hd, np, rfl, hp, hnp, k⟩ := h
    refine ⟨_, C8.pss_cut (ps_asg (pe_ifExp (pt_val (pv 2)) (pe_slice sl_list (pv 1) (po_some pe_int) (po_some pe_int)) (pe_tup (pa_cons pe_int (pa_cons pe_int pa_nil)))) (pg_alt (pg_tup (by rfl) (pgs_cons (pg_name (i := 4) scTL.nd rfl (Or.inl rfl)) (pgs_cons (pg_name (i := 5) scTL.nd rfl (Or.inl rfl)) pgs_nil))) (pg_unl (by rfl) (pgs_cons (pg_name (i := 4) scTL.nd rfl (Or.inl rfl)) (pgs_cons (pg_name (i := 5) scTL.nd rfl (Or.inl rfl)) pgs_nil)))))
(pss_one (ps_ret (pe_tup (pa_cons (pv 0) (pa_cons (pe_ix ix_list (pv 1) pe_int (fun _ _ => rfl)) (pa_cons (pv 4) (pa_cons (pv 5) (pa_cons (pe_ifExp (pt_val (pv 3)) (pe_ix ix_list (pv 1) (pe_un un_neg pe_int) (fun _ _ => rfl)) pe_int) pa_nil)))))))), ?_⟩
    refine ⟨fun σ G => σ = [some (.bl y.fr), some (.ref np), some (.bl (exB y)), some (.bl (heB hd)), some (nI y.E), some (nI y.X)] ∧ Same H G, ?_, ?_⟩
    · refine ⟨_, rfl, exB y, rfl, ?_⟩
      refine ite2 (fun he => ?_) (fun he => ?_)
      · have he : 0 < y.E := of_decide_eq_true he
        have hcv : ∃ r, (nsOf y hd).map nI = nI y.B :: nI y.E :: nI y.X :: r := by
          unfold nsOf
          rw [if_pos he]
          exact ⟨_, rfl⟩
        obtain ⟨r, hcv⟩ := hcv
        rw [hcv] at hnp
        refine ⟨_, rfl, _, rfl, _, rfl, np, _, rfl, .inl (.inl hnp), fun p hp' => ?_⟩
        have hc : cutV (nI y.B :: nI y.E :: nI y.X :: r) (some 1) (some 3) = [nI y.E, nI y.X] := by
          have := cut_mid (xs := nI y.B :: nI y.E :: nI y.X :: r) (b := 1) (e := 3) (by omega) (by show 3 ≤ r.length + 1 + 1 + 1; omega)
          exact this
        rw [hc]
        exact .inr ⟨p, _, rfl, .inl (.inl upd_same), rfl, _, _, rfl, _, _, rfl, rfl, rfl, sNew hp'⟩
      · have he : ¬ 0 < y.E := fun z => he (decide_eq_true z)
        have hE0 : y.E = 0 := by omega
        have hX0 := hp.x0 he
        refine ⟨by show 2 ≤ sizeLine; decide, fun p hp' => .inl ⟨p, _, rfl, .inl (.inl upd_same), rfl, _, _, rfl, _, _, rfl, rfl, ?_, sNew hp'⟩⟩
        rw [hE0, hX0]
        rfl
    · rintro σ G ⟨rfl, sg⟩
      have hnp2 := sg _ _ hnp
      refine ⟨_, rfl, _, rfl, np, _, 0, nI y.B, rfl, rfl, .inl (.inl hnp2), atI_nat (j := 0) rfl, _, rfl, _, rfl, _, rfl, heB hd, rfl, ?_⟩
      have fin : ∀ r G', Same G G' → G' r = some (.tup (five y)) → Q (.ref r) G' := fun r G' s' hr' => k r G' (sg.trans s') hr'
      have hho := hp.ho
      unfold HdOk at hho
      refine ite2 (fun h0 => ?_) (fun h0 => ?_)
      · have h0 : 0 ≤ hd := of_decide_eq_true h0
        rw [if_neg (by omega)] at hho
        have hH : hd.toNat = y.H := by omega
        have hlast : ∃ r, (nsOf y hd).map nI = r ++ [nI y.H] := by
          unfold nsOf
          rw [if_pos h0, hH]
          refine ⟨([y.B] ++ (if 0 < y.E then [y.E, y.X] else [])).map nI, ?_⟩
          simp only [List.map_append, List.append_assoc, List.map_cons, List.map_nil]
        obtain ⟨r, hlast⟩ := hlast
        rw [hlast] at hnp2
        refine ⟨_, rfl, _, rfl, np, _, -1, nI y.H, rfl, rfl, .inl (.inl hnp2), atI_last _ _, by show 5 ≤ sizeLine; decide, fun p hp' => fin p _ (sNew hp') upd_same⟩
      · have h0 : ¬ 0 ≤ hd := fun z => h0 (decide_eq_true z)
        rw [if_pos (by omega)] at hho
        have hH : y.H = 8 := by omega
        refine ⟨by show 5 ≤ sizeLine; decide, fun p hp' => fin p _ (sNew hp') ?_⟩
        rw [upd_same]
        unfold five
        rw [hH]
        rfl
end
end Wq
set_option Elab.async false
set_option linter.all false
set_option maxRecDepth 100000
set_option maxHeartbeats 4000000
namespace Wq
open PySem PySem.Spec PyProof.Rows L2
open SX (S S_len S_cat S_beq_eq)
/-- the tables of forms -/
structure Forms (K : PySem.W.Frag) (mg : Str → Option Value) : Prop where
  ex : ∃ b b0 b1 n0 n1 e e0 e1 n2 n3 h h0 h1 n4 : Addr, mg "BLOCKS" = some (.ref b) ∧ StT K b [.ref b0, .ref b1] ∧ StT K b0 [.str (S (cBlk false)), .ref n0] ∧ StT K b1 [.str (S (cBlk true)), .ref n1] ∧ StT K n0 [nI 1, nI 16] ∧ StT K n1 [nI 1, nI 16] ∧
    mg "EXCEPTIONS" = some (.ref e) ∧ StT K e [.ref e0, .ref e1] ∧ StT K e0 [] ∧ StT K e1 [.str (S cExc), .ref n2, .str (S cOf), .ref n3, .str (S cBits)] ∧ StT K n2 [nI 1, nI 4] ∧ StT K n3 [nI 1, nI 24] ∧
    mg "HEADS" = some (.ref h) ∧ StT K h [.ref h0, .ref h1] ∧ StT K h0 [] ∧ StT K h1 [.str (S cHead), .ref n4, .str (S cBits)] ∧ StT K n4 [nI 0, nI 64]
def b2 (i : Nat) : Bool := decide (i = 1)
theorem Forms.get {K : PySem.W.Frag} {mg : Str → Option Value} (F : Forms K mg) : ∃ b e h : Addr, mg "BLOCKS" = some (.ref b) ∧ mg "EXCEPTIONS" = some (.ref e) ∧ mg "HEADS" = some (.ref h) ∧
    (∃ x0 x1, StT K b [.ref x0, .ref x1] ∧ ∀ i, i < 2 → ∃ a xs, ([.ref x0, .ref x1] : List V)[i]? = some (.ref a) ∧ StT K a xs ∧ xs ≠ [] ∧ FmV K xs [.lit (cBlk (b2 i)), .num 1 16]) ∧
    (∃ x0 x1, StT K e [.ref x0, .ref x1] ∧ ∀ i, i < 2 → ∃ a xs, ([.ref x0, .ref x1] : List V)[i]? = some (.ref a) ∧ StT K a xs ∧ FmV K xs (pExc (b2 i))) ∧
    (∃ x0 x1, StT K h [.ref x0, .ref x1] ∧ ∀ i, i < 2 → ∃ a xs, ([.ref x0, .ref x1] : List V)[i]? = some (.ref a) ∧ StT K a xs ∧ FmV K xs (pHd (b2 i))) := by
  obtain ⟨b, b0, b1, n0, n1, e, e0, e1, n2, n3, h, h0, h1, n4, g1, s1, s2, s3, s4, s5, g2, t1, t2, t3, t4, t5, g3, u1, u2, u3, u4⟩ := F.ex
  refine ⟨b, e, h, g1, g2, g3, ⟨b0, b1, s1, fun i hi => ?_⟩, ⟨e0, e1, t1, fun i hi => ?_⟩, ⟨h0, h1, u1, fun i hi => ?_⟩⟩
  · match i, hi with
    | 0, _ => exact ⟨b0, _, rfl, s2, (fun z => nomatch z), rfl, ⟨n0, rfl, s4⟩, trivial⟩
    | 1, _ => exact ⟨b1, _, rfl, s3, (fun z => nomatch z), rfl, ⟨n1, rfl, s5⟩, trivial⟩
  · match i, hi with
    | 0, _ => exact ⟨e0, _, rfl, t2, trivial⟩
    | 1, _ => exact ⟨e1, _, rfl, t3, rfl, ⟨n2, rfl, t4⟩, rfl, ⟨n3, rfl, t5⟩, rfl, trivial⟩
  · match i, hi with
    | 0, _ => exact ⟨h0, _, rfl, u2, trivial⟩
    | 1, _ => exact ⟨h1, _, rfl, u3, rfl, ⟨n4, rfl, u4⟩, rfl, trivial⟩
def bn (b : Bool) : Nat := if b = true then 1 else 0
theorem bn_b2 {i : Nat} (h : i < 2) : bn (b2 i) = i := by
  match i, h with
  | 0, _ => rfl
  | 1, _ => rfl
theorem earlier {i j l : Nat} (hi : i < 2) (hj : j < 2) (hl : l < 2) (a b c : Bool) (h : 4 * i + 2 * j + l < 4 * bn a + 2 * bn b + bn c) : (b2 i = false ∧ a = true) ∨ (b2 i = a ∧ ((b2 j = false ∧ b = true) ∨ (b2 j = b ∧ b2 l = false ∧ c = true))) := by
  match i, hi, j, hj, l, hl with
  | 0, _, 0, _, 0, _ => revert h; cases a <;> cases b <;> cases c <;> decide
  | 0, _, 0, _, 1, _ => revert h; cases a <;> cases b <;> cases c <;> decide
  | 0, _, 1, _, 0, _ => revert h; cases a <;> cases b <;> cases c <;> decide
  | 0, _, 1, _, 1, _ => revert h; cases a <;> cases b <;> cases c <;> decide
  | 1, _, 0, _, 0, _ => revert h; cases a <;> cases b <;> cases c <;> decide
  | 1, _, 0, _, 1, _ => revert h; cases a <;> cases b <;> cases c <;> decide
  | 1, _, 1, _, 0, _ => revert h; cases a <;> cases b <;> cases c <;> decide
  | 1, _, 1, _, 1, _ => revert h; cases a <;> cases b <;> cases c <;> decide
theorem now {i j l : Nat} (hi : i < 2) (hj : j < 2) (hl : l < 2) (a b c : Bool) (h : 4 * i + 2 * j + l = 4 * bn a + 2 * bn b + bn c) : b2 i = a ∧ b2 j = b ∧ b2 l = c := by
  match i, hi, j, hj, l, hl with
  | 0, _, 0, _, 0, _ => revert h; cases a <;> cases b <;> cases c <;> decide
  | 0, _, 0, _, 1, _ => revert h; cases a <;> cases b <;> cases c <;> decide
  | 0, _, 1, _, 0, _ => revert h; cases a <;> cases b <;> cases c <;> decide
  | 0, _, 1, _, 1, _ => revert h; cases a <;> cases b <;> cases c <;> decide
  | 1, _, 0, _, 0, _ => revert h; cases a <;> cases b <;> cases c <;> decide
  | 1, _, 0, _, 1, _ => revert h; cases a <;> cases b <;> cases c <;> decide
  | 1, _, 1, _, 0, _ => revert h; cases a <;> cases b <;> cases c <;> decide
  | 1, _, 1, _, 1, _ => revert h; cases a <;> cases b <;> cases c <;> decide
theorem bn_le (b : Bool) : bn b ≤ 1 := by cases b <;> decide
abbrev sRL : Stmt := top 13
abbrev NRL : List Str := ["text", "furthest", "free", "excepting", "heading", "form", "at", "numbers", "ahead"]
theorem scRL : FnScope NRL ["text"] (defScope sRL) := ⟨rfl, rfl, rfl, by decide +kernel, rfl, by decide +kernel, by decide +kernel⟩
def spRL : Sp := fun vs H Q _ => ∃ (y : Ly) (hd : Int), vs = [.str (S (Tx y hd))] ∧ PaX y hd ∧ ∀ r G, Same H G → G r = some (.tup (five y)) → Q (.ref r) G
theorem lit_ok {fr ex he : Bool} {w : List Nat} (h : Pt.lit w ∈ fmP fr ex he) : w.length ≤ 100 := by
  unfold fmP pExc pHd at h
  cases fr <;> cases ex <;> cases he <;> (simp [cBlk, cExc, cOf, cBits, cHead] at h; rcases h with h | h | h | h | h | h | h <;> first | (subst h; decide) | (exact h.elim) | skip)
  all_goals first | decide | omega | skip
end Wq
set_option Elab.async false
set_option linter.all false
set_option maxRecDepth 100000
set_option maxHeartbeats 4000000
namespace Wq
open PySem PySem.Spec PyProof.Rows L2
open SX (S S_len S_cat S_beq_eq)
theorem catA_of {K : PySem.W.Frag} {H : Hp} {a b : Addr} {xs ys : List V} {Q : VK} (ha : SqT K H a xs) (hb : SqT K H b ys) (hl : xs.length + ys.length ≤ 100) (k : ∀ c G, Same H G → SqT K G c (xs ++ ys) → Q (.ref c) G) : rCatA K (.ref a) (.ref b) H Q := by
  refine ⟨a, b, xs, ys, rfl, rfl, ha, hb, by rw [sizeLine_eq]; omega, fun e => ?_, fun _ e => ?_, fun _ _ p hp => k p _ (sNew hp) (.inl (.inl upd_same))⟩
  · exact k b H (.refl _) (by rw [e]; exact hb)
  · exact k a H (.refl _) (by rw [e, List.append_nil]; exact ha)
theorem dec_b2 {i : Nat} : decide (V.int (0 + (i : Int)) = V.int 1) = b2 i := by
  unfold b2
  refine decide_eq_decide.mpr ⟨fun z => ?_, fun z => by rw [z]; rfl⟩
  have := V.int.inj z
  omega
theorem fm_len {fr ex he : Bool} : (fmP fr ex he).length ≤ 100 := by cases fr <;> cases ex <;> cases he <;> decide
theorem pe_len {ex : Bool} : (pExc ex).length ≤ 10 := by cases ex <;> decide
theorem ph_len {ex : Bool} : (pHd ex).length ≤ 10 := by cases ex <;> decide
section
variable {P : Program} {w : World} {K : PySem.W.Frag} {mg : Str → Option Value} {base : Heap} {C : Addr}
theorem ok_RL (D : DefAt K mg "read_layout" sRL) (T : Txt K mg) (TL : TxtL K mg C) (F : Forms K mg) (CR : Cl P w K mg base 3 "read_form" (spRF K)) (CT : Cl P w K mg base 1 "told_layout" (spTL K)) : Cl P w K mg base 4 "read_layout" spRL := by
  refine cl_of D scRL (fun vs H Q E h => ?_) (fun _ _ _ _ _ _ us hl => match us, hl with | [_], _ => rfl) (fun f cdv A1 outer s H vs Q E hr h => ?_)
  · obtain ⟨y, hd, rfl, _⟩ := h
    rfl
  · obtain ⟨y, hd, rfl, hp, k⟩ := h
    obtain ⟨b, e, hh, g1, g2, g3, ⟨xb0, xb1, sb, fb⟩, ⟨xe0, xe1, se, fe⟩, ⟨xh0, xh1, sh, fh⟩⟩ := F.get
    refine ⟨_, pss_cons (ps_if (pt_not (pt_val (pe_callB call_isi (by rfl) (by exact TL.isi) (by decide +kernel) (pa_cons (pv 0) (pa_cons (pe_bltn rfl (by exact TL.str) (by decide +kernel) (v := .ty "str") rfl) pa_nil)))))
pss_never
pss_nil)
(pss_cons (ps_set (i := 1) scRL.nd rfl (Or.inl rfl) pe_int)
(C8.pss_cut (ps_for PassesOwn.never rfl (pi_range1 rfl (by exact T.range) (pa_cons pe_int pa_nil)) (pg_name (i := 2) scRL.nd rfl (Or.inl rfl))
(pss_one (ps_for PassesOwn.never rfl (pi_range1 rfl (by exact T.range) (pa_cons pe_int pa_nil)) (pg_name (i := 3) scRL.nd rfl (Or.inl rfl))
(pss_one (ps_for PassesOwn.never rfl (pi_range1 rfl (by exact T.range) (pa_cons pe_int pa_nil)) (pg_name (i := 4) scRL.nd rfl (Or.inl rfl))
(pss_cons (ps_set (i := 5) scRL.nd rfl (Or.inl rfl) (pe_op op_catA (pe_op op_catA (pe_ix ix_tup (pe_glob rfl (by exact g1) (v := .ref b) rfl) (pv 2) (fun _ _ => rfl)) (pe_ix ix_tup (pe_glob rfl (by exact g2) (v := .ref e) rfl) (pv 3) (fun _ _ => rfl))) (pe_ix ix_tup (pe_glob rfl (by exact g3) (v := .ref hh) rfl) (pv 4) (fun _ _ => rfl))))
(pss_cons (ps_asg (pe_cl CR hr (by decide) rfl (pa_cons (pv 0) (pa_cons (pv 5) pa_nil))) (pg_tup (by rfl) (pgs_cons (pg_name (i := 6) scRL.nd rfl (Or.inl rfl)) (pgs_cons (pg_name (i := 7) scRL.nd rfl (Or.inl rfl)) pgs_nil))))
(pss_cons (ps_if (pt_cmpR op_gt (pv 6) (pe_callB call_len_str (by rfl) (by exact T.len) PySem.boot_len (pa_cons (pv 0) pa_nil)) (nomark _))
(pss_one (ps_ret (pe_cl CT hr (by decide) rfl (pa_cons (pe_cmpR op_eq (pv 2) pe_int (nomark _)) (pa_cons (pv 7) (pa_cons (pe_cmpR op_eq (pv 3) pe_int (nomark _)) (pa_cons (pe_cmpR op_eq (pv 4) pe_int (nomark _)) pa_nil)))))))
pss_nil)
(pss_one (ps_set (i := 1) scRL.nd rfl (Or.inl rfl) (pe_callB (call_max2 rfl) (by rfl) (by exact TL.max) (by decide +kernel) (pa_cons (pv 1) (pa_cons (pv 6) pa_nil)))))))))))))
pss_never)), ?_⟩
    have hTl := Tx_len hp.toPaOk
    have hb0 := bn_le y.fr
    have hb1 := bn_le (exB y)
    have hb2 := bn_le (heB hd)
    have hzt : (S (Tx y hd)).length ≤ sizeLine := by rw [S_len, sizeLine_eq]; omega
    have hSt : (S (Tx y hd)).length = (Tx y hd).length := S_len _
    refine ⟨_, rfl, .str (S (Tx y hd)), .ty "str", _, _, _, rfl, .ty "str", .base (.str _), kit_ty (r := true) (by decide +kernel), true, rfl, ?_⟩
    refine (if_neg (by decide)).mpr ?_
    refine ⟨fun _ _ => False, ?_, fun σ G z => z.elim⟩
    refine ⟨_, rfl, by decide, by decide, ?_⟩
    refine for_range (lo := 0) (n := 2) (fun i σ G => ∃ (fu : Nat) (x2 x3 x4 x5 x6 x7 x8 : Option V), σ = [some (.str (S (Tx y hd))), some (nI fu), x2, x3, x4, x5, x6, x7, x8] ∧ Same H G ∧ fu ≤ (Tx y hd).length ∧ 4 * i ≤ 4 * bn y.fr + 2 * bn (exB y) + bn (heB hd)) ⟨0, _, _, _, _, _, _, _, rfl, .refl _, Nat.zero_le _, Nat.zero_le _⟩ ?_ ?_
    · rintro i σ G hi ⟨fu, x2, x3, x4, x5, x6, x7, x8, rfl, sG, hfu, hti⟩
      refine ⟨_, rfl, by decide, by decide, ?_⟩
      refine for_range (lo := 0) (n := 2) (fun j σ G => ∃ (fu : Nat) (x3 x4 x5 x6 x7 x8 : Option V), σ = [some (.str (S (Tx y hd))), some (nI fu), some (.int (0 + (i : Int))), x3, x4, x5, x6, x7, x8] ∧ Same H G ∧ fu ≤ (Tx y hd).length ∧ 4 * i + 2 * j ≤ 4 * bn y.fr + 2 * bn (exB y) + bn (heB hd)) ⟨fu, _, _, _, _, _, _, rfl, sG, hfu, hti⟩ ?_ ?_
      · rintro j σ G2 hj ⟨fu, x3, x4, x5, x6, x7, x8, rfl, sG, hfu, htj⟩
        refine ⟨_, rfl, by decide, by decide, ?_⟩
        refine for_range (lo := 0) (n := 2) (fun l σ G => ∃ (fu : Nat) (x4 x5 x6 x7 x8 : Option V), σ = [some (.str (S (Tx y hd))), some (nI fu), some (.int (0 + (i : Int))), some (.int (0 + (j : Int))), x4, x5, x6, x7, x8] ∧ Same H G ∧ fu ≤ (Tx y hd).length ∧ 4 * i + 2 * j + l ≤ 4 * bn y.fr + 2 * bn (exB y) + bn (heB hd)) ⟨fu, _, _, _, _, _, rfl, sG, hfu, htj⟩ ?_ ?_
        · rintro l σ G3 hl ⟨fu, x4, x5, x6, x7, x8, rfl, sG, hfu, htl⟩
          obtain ⟨a1, xs1, ha1, hs1, hn1, hf1⟩ := fb i hi
          obtain ⟨a2, xs2, ha2, hs2, hf2⟩ := fe j hj
          obtain ⟨a3, xs3, ha3, hs3, hf3⟩ := fh l hl
          have hF : FmV K ((xs1 ++ xs2) ++ xs3) (fmP (b2 i) (b2 j) (b2 l)) := by
            unfold fmP
            rw [← List.append_assoc]
            exact FmV.app (FmV.app hf1 hf2) hf3
          have l1 := hf1.len
          have l2 := hf2.len
          have l3 := hf3.len
          have p2 := pe_len (ex := b2 j)
          have p3 := ph_len (ex := b2 l)
          have l1 : xs1.length = 2 := l1
          have eI : ∀ {n : Nat} {zs : List V} {v : V}, zs[n]? = some v → atI zs (0 + (n : Int)) = some v := fun h => by rw [Int.zero_add]; exact atI_nat h
          refine ⟨_, rfl, b, _, _, _, rfl, rfl, sb.sq, eI ha1, _, rfl, e, _, _, _, rfl, rfl, se.sq, eI ha2, catA_of hs1.sq hs2.sq (by omega) fun c1 H1 s1 hc1 => ?_⟩
          refine ⟨_, rfl, hh, _, _, _, rfl, rfl, sh.sq, eI ha3, catA_of hc1 hs3.sq (by rw [List.length_append]; omega) fun c2 H2 s2 hc2 => ?_⟩
          refine ⟨_, rfl, _, rfl, Tx y hd, c2, _, _, rfl, hc2, hF, by omega, fm_len, fun w hw => lit_ok hw, fun r np G4 s4 hr4 hnp => ?_⟩
          have sA := sG.trans (s1.trans (s2.trans s4))
          refine ⟨r, _, rfl, .inl (.inl hr4), rfl, _, _, rfl, _, _, rfl, rfl, ?_⟩
          refine ⟨_, rfl, _, rfl, S (Tx y hd), rfl, hzt, _, _, rfl, rfl, _, rfl, ?_⟩
          by_cases ht : 4 * i + 2 * j + l = 4 * bn y.fr + 2 * bn (exB y) + bn (heB hd)
          · obtain ⟨e1, e2, e3⟩ := now hi hj hl _ _ _ ht
            rw [e1, e2, e3, rf_right hp.toPaOk] at hnp ⊢
            refine (if_pos (decide_eq_true (by show ((S (Tx y hd)).length : Int) < (((Tx y hd).length + 1 : Nat) : Int); omega))).mpr ?_
            refine ⟨_, rfl, rfl, _, rfl, _, rfl, rfl, _, rfl, rfl, y, hd, np, ?_, hp, hnp, fun r2 G5 s5 hr5 => k r2 G5 (sA.trans s5) hr5⟩
            rw [dec_b2, dec_b2, dec_b2, e1, e2, e3]
            rfl
          · have hw := rf_wrong hp.toPaOk (b2 i) (b2 j) (b2 l) (earlier hi hj hl _ _ _ (by omega))
            generalize rf (Tx y hd) (fmP (b2 i) (b2 j) (b2 l)) 0 [] = R at *
            refine (if_neg (fun z => ?_)).mpr ?_
            · have z : ((S (Tx y hd)).length : Int) < ((R.1 : Nat) : Int) := of_decide_eq_true z
              omega
            · refine ⟨_, rfl, _, rfl, _, _, rfl, ?_⟩
              have e9 : (if ((R.1 : Nat) : Int) > ((fu : Nat) : Int) then ((R.1 : Nat) : Int) else ((fu : Nat) : Int)) = ((max fu R.1 : Nat) : Int) := by
                split <;> omega
              refine ⟨max fu R.1, _, _, _, _, _, congrArg (fun z => [some (V.str (S (Tx y hd))), some (V.int z), some (.int (0 + (i : Int))), some (.int (0 + (j : Int))), some (.int (0 + (l : Int))), some (.ref c2), some (nI R.1), some (.ref np), x8]) e9, sA, by omega, by omega⟩
        · rintro σ G3 ⟨fu, x4, x5, x6, x7, x8, rfl, sG, hfu, htl⟩
          exact ⟨fu, _, _, _, _, _, _, rfl, sG, hfu, by omega⟩
      · rintro σ G2 ⟨fu, x3, x4, x5, x6, x7, x8, rfl, sG, hfu, htl⟩
        exact ⟨fu, _, _, _, _, _, _, _, rfl, sG, hfu, by omega⟩
    · rintro σ G ⟨fu, x2, x3, x4, x5, x6, x7, x8, rfl, sG, hfu, htl⟩
      omega
end
end Wq
set_option Elab.async false
set_option linter.all false
set_option maxRecDepth 100000
set_option maxHeartbeats 4000000
namespace Wq
open PySem PySem.Spec PyProof.Rows L2
open SX (S S_len S_cat S_beq_eq)
/-! an attribute as one of several targets -/
def gFld (K : PySem.W.Frag) (ta : TE) (f : Str) : TG := fun v σ H Q => ta σ H fun x H1 => ∃ a C dx fs, x = .ref a ∧ H1 a = some (.ins C dx fs) ∧ Cls K C ∧ NoAttr K C f ∧ fs.length < 1000 ∧ Q σ (upd H1 a (.ins C dx (putF f v fs)))
theorem pg_fld {X : Cx} {o : Expr} {f : Str} {pos : Pos} {ta : TE} (ho : PE X o ta) : PG X (.Attribute o f pos) (gFld X.K ta f) := by
  refine ⟨fun pins s σ H v u Q I r h => ?_⟩
  rw [assign_Attribute]
  refine wpAny_bind (wpAny_holding (thn (ho.run pins s σ H _ I h) fun ov s1 ⟨x, H1, I1, rx, a, C, dx, fs, ex, ea, c, n, l, q⟩ => ?_))
  subst ex
  obtain rfl : ov = Value.ref a := rx
  refine wpAny_bind (wpAny_standAt (wpAny_bind (wpAny_holding (setattr_ok I1 ea c n l r fun s3 I3 => ?_))))
  exact wpAny_release ⟨σ, _, I3, q⟩
abbrev sLI : Stmt := inClass (top 18) 0
theorem scLI : FnScope ["self", "text"] ["self", "text"] (defScope sLI) := ⟨rfl, rfl, rfl, by decide +kernel, rfl, by decide +kernel, by decide +kernel⟩
def spLI (C : Addr) : Sp := fun vs H Q _ => ∃ (p dx : Addr) (y : Ly) (hd : Int), vs = [.ref p, .str (S (Tx y hd))] ∧ PaX y hd ∧ H p = some (.ins C dx []) ∧
  ∀ G, SameP p H G → G p = some (.ins C dx (lf y (S (Tx y hd)))) → Q .non G
section
variable {P : Program} {w : World} {K : PySem.W.Frag} {mg : Str → Option Value} {base : Heap} {C : Addr}
theorem ok_LI {f : Addr} {fd : FuncData} (F : Fun K "__init__" "Layout.__init__" sLI f fd) (TL : TxtL K mg C) (CR : Cl P w K mg base 4 "read_layout" spRL) : FnOk P w K mg base CX0 5 f fd ["self", "text"] (spLI C) := by
  refine F.ok scLI (fun vs H Q E h => ?_) (fun cdv A outer s H vs Q E hr h => ?_)
  · obtain ⟨p, dx, y, hd, rfl, _⟩ := h
    rfl
  · obtain ⟨p, dx, y, hd, rfl, hp, hH, k⟩ := h
    refine ⟨_, pss_cons (ps_asg (pe_cl CR hr (by decide) rfl (pa_cons (pv 1) pa_nil)) (pg_tup (by rfl) (pgs_cons (pg_fld (pv 0)) (pgs_cons (pg_fld (pv 0)) (pgs_cons (pg_fld (pv 0)) (pgs_cons (pg_fld (pv 0)) (pgs_cons (pg_fld (pv 0)) pgs_nil)))))))
(pss_one (ps_fld (pv 0) (pv 1) rfl)), ?_⟩
    refine ⟨_, rfl, y, hd, rfl, hp, fun r G sG hr4 => ⟨r, _, rfl, .inl (.inl hr4), rfl, _, _, rfl, _, rfl, p, C, dx, [], rfl, sG _ _ hH, TL.cl, TL.nF, by show 0 < 1000; decide, ?_⟩⟩
    refine ⟨_, _, rfl, _, rfl, p, C, dx, _, rfl, upd_same, TL.cl, TL.nB, by show 1 < 1000; decide, ?_⟩
    refine ⟨_, _, rfl, _, rfl, p, C, dx, _, rfl, upd_same, TL.cl, TL.nE, by show 2 < 1000; decide, ?_⟩
    refine ⟨_, _, rfl, _, rfl, p, C, dx, _, rfl, upd_same, TL.cl, TL.nX, by show 3 < 1000; decide, ?_⟩
    refine ⟨_, _, rfl, _, rfl, p, C, dx, _, rfl, upd_same, TL.cl, TL.nH, by show 4 < 1000; decide, ?_⟩
    refine ⟨rfl, _, rfl, _, rfl, p, C, dx, _, rfl, upd_same, TL.cl, TL.nT, by show 5 < 1000; decide, ?_⟩
    refine k _ (fun b o e n => by rw [upd_ne n, upd_ne n, upd_ne n, upd_ne n, upd_ne n, upd_ne n]; exact sG b o e) ?_
    rw [upd_same]
    rfl
end
end Wq
set_option Elab.async false
set_option linter.all false
set_option maxRecDepth 100000
set_option maxHeartbeats 4000000
namespace Wq
open PySem PySem.Spec PyProof.Rows L2
open SX (S S_len S_cat S_beq_eq)
theorem log_ok {n : Int} (h0 : 0 < n) (h : n < 536870912) : n.natAbs.log2 < 9000 := by
  have h2 : n.natAbs.log2 < 30 := PySem.Flt.log2_lt_of (by decide) (by omega)
  omega
/-! the pen moves, all else stays -/
structure Pn (p c : Addr) (m : Nat) (H G : Hp) : Prop where
  sp : SameP p H G
  pen : PenAt G p c m
  old : ∃ m0, PenAt H p c m0
section
variable {p c q : Addr} {m m' : Nat} {H G G' : Hp} {o : HO} {xs : List V}
theorem Pn.refl (h : PenAt H p c m) : Pn p c m H H := ⟨.refl, h, _, h⟩
theorem Pn.draw (h : Pn p c m H G) (hp : PenAt (upd G p o) p c m') : Pn p c m' H (upd G p o) := ⟨h.sp.trans .upd, hp, h.old⟩
theorem Pn.neP (h : Pn p c m H G) (hq : H q = none) : p ≠ q ∧ c ≠ q := by
  obtain ⟨m0, h0⟩ := h.old
  obtain ⟨kvs, hk⟩ := h0.dict
  obtain ⟨ys, hy⟩ := h0.cells
  exact ⟨ne_of_none hk hq, ne_of_none hy hq⟩
theorem Pn.put (h : Pn p c m H G) (hq : H q = none) : Pn p c m H (upd G q o) := by
  have hn := h.neP hq
  refine ⟨fun b u e n => ?_, h.pen.put hn.1 hn.2, h.old⟩
  rw [upd_ne (ne_of_none e hq)]
  exact h.sp b u e n
theorem Pn.free (h : Pn p c m H G) (hq : G q = none) : H q = none := by
  obtain ⟨m0, h0⟩ := h.old
  obtain ⟨kvs, hk⟩ := h0.dict
  cases e : H q with
  | none => rfl
  | some u =>
    by_cases n : q = p
    · subst n
      obtain ⟨kvs', hk'⟩ := h.pen.dict
      rw [hq] at hk'
      cases hk'
    · have := h.sp q u e n
      rw [hq] at this
      cases this
theorem Pn.new (h : Pn p c m H G) (hq : G q = none) : Pn p c m H (upd G q o) := h.put (h.free hq)
theorem Pn.mono (h : Pn p c m H G) (hm : m ≤ m') : Pn p c m' H G := ⟨h.sp, h.pen.mono hm, h.old⟩
theorem Pn.trans (h : Pn p c m H G) (h' : Pn p c m' G G') : Pn p c m' H G' := ⟨h.sp.trans h'.sp, h'.pen, h.old⟩
theorem Pn.same (h : Pn p c m H G) (s : Same G G') : Pn p c m H G' := ⟨h.sp.trans (.of s), h.pen.same s, h.old⟩
theorem Pn.lst (h : Pn p c m H G) (hq : H q = some (.lst xs)) : G q = some (.lst xs) := by
  obtain ⟨m0, h0⟩ := h.old
  obtain ⟨kvs, hk⟩ := h0.dict
  exact h.sp q _ hq (ne_of hq hk (by intro z; cases z))
end
theorem pick_int {ns : List Int} {i : Nat} {v : V} (h : (ns.map V.int)[i]? = some v) : ∃ z ∈ ns, v = .int z := by
  rw [List.getElem?_map] at h
  cases e : ns[i]? with
  | none => rw [e] at h; cases h
  | some z =>
    rw [e] at h
    exact ⟨z, List.mem_of_getElem? e, (Option.some.inj h).symm⟩
abbrev sLP : Stmt := top 26
abbrev NLP : List Str := ["_law_pen_here", "_law_parts_here"]
theorem scLP : FnScope NLP ["_law_pen_here"] (defScope sLP) := ⟨rfl, rfl, rfl, by decide +kernel, rfl, by decide +kernel, by decide +kernel⟩
def spLP : Sp := fun vs H Q _ => ∃ (p c : Addr) (m : Nat), vs = [.ref p] ∧ PenAt H p c m ∧ m < 1000000 ∧
  ∀ (y : Ly) (hd : Int) (q : Addr) (G : Hp), Pn p c (m + 10) H G → H q = none → G q = some (.lst (paV y hd)) → PaX y hd → Q (.ref q) G
section
variable {P : Program} {w : World} {K : PySem.W.Frag} {mg : Str → Option Value} {base : Heap} {C : Addr}
theorem ok_LP (D : DefAt K mg "_law_parts" sLP) (CD : Cl P w K mg base 1 "_law_draw" (spDraw K)) (CP : Cl P w K mg base 2 "_law_pick" (spPick K)) : Cl P w K mg base 3 "_law_parts" spLP := by
  refine cl_of D scLP (fun vs H Q E h => ?_) (fun _ _ _ _ _ _ us hl => match us, hl with | [_], _ => rfl) (fun f cdv A1 outer s H vs Q E hr h => ?_)
  · obtain ⟨p, c, m, rfl, _⟩ := h
    rfl
  · obtain ⟨p, c, m, rfl, hP, hm, k⟩ := h
    refine ⟨_, C8.pss_cut (ps_set (i := 1) scLP.nd rfl (Or.inl rfl) (pe_lst (pa_cons (pe_cmpR op_eq (pe_cl CD hr (by decide) rfl (pa_cons (pv 0) (pa_cons pe_int pa_nil))) pe_int (nomark _)) (pa_cons (pe_cl CP hr (by decide) rfl (pa_cons (pv 0) (pa_cons (pe_lst (pa_cons pe_int (pa_cons pe_int (pa_cons pe_int (pa_cons pe_int (pa_cons pe_int (pa_cons pe_int (pa_cons pe_int (pa_cons (pe_op op_add pe_int (pe_cl CD hr (by decide) rfl (pa_cons (pv 0) (pa_cons pe_int pa_nil)))) pa_nil))))))))) pa_nil))) (pa_cons pe_int (pa_cons pe_int (pa_cons (pe_un un_neg pe_int) pa_nil)))))))
(C8.pss_cut (ps_if (pt_cmpR op_eq (pe_cl CD hr (by decide) rfl (pa_cons (pv 0) (pa_cons pe_int pa_nil))) pe_int (nomark _))
(pss_cons (ps_asg (pe_op op_add pe_int (pe_cl CD hr (by decide) rfl (pa_cons (pv 0) (pa_cons pe_int pa_nil)))) (pg_sub (pv 1) pe_int set_list))
(pss_one (ps_asg (pe_cl CP hr (by decide) rfl (pa_cons (pv 0) (pa_cons (pe_lst (pa_cons pe_int (pa_cons pe_int (pa_cons pe_int (pa_cons pe_int (pa_cons pe_int (pa_cons (pe_op op_add pe_int (pe_cl CD hr (by decide) rfl (pa_cons (pv 0) (pa_cons pe_int pa_nil)))) pa_nil))))))) pa_nil))) (pg_sub (pv 1) pe_int set_list))))
pss_nil)
(C8.pss_cut (ps_if (pt_cmpR op_eq (pe_cl CD hr (by decide) rfl (pa_cons (pv 0) (pa_cons pe_int pa_nil))) pe_int (nomark _))
(pss_one (ps_asg (pe_cl CP hr (by decide) rfl (pa_cons (pv 0) (pa_cons (pe_lst (pa_cons pe_int (pa_cons pe_int (pa_cons pe_int (pa_cons pe_int (pa_cons pe_int (pa_cons (pe_cl CD hr (by decide) rfl (pa_cons (pv 0) (pa_cons pe_int pa_nil))) pa_nil))))))) pa_nil))) (pg_sub (pv 1) pe_int set_list)))
pss_nil)
(pss_one (ps_ret (pv 1))))), ?_⟩
    have hz9 : ∀ n, n ≤ 9 → n ≤ sizeLine := fun n h => by rw [sizeLine_eq]; omega
    refine ⟨fun σ G => ∃ (b : Bool) (B : Int) (q : Addr), σ = [some (.ref p), some (.ref q)] ∧ Pn p c (m + 3) H G ∧ H q = none ∧ G q = some (.lst [.bl b, .int B, .int 0, .int 0, .int (-1)]) ∧ 1 ≤ B ∧ B ≤ 16, ?_, ?_⟩
    · refine ⟨_, rfl, p, c, m, 2, rfl, hP, by omega, by decide, log_ok (by decide) (by decide), fun v0 o0 _ _ hP1 => ⟨rfl, _, rfl, _, rfl, p, c, m + 1, 16, rfl, hP1, by omega, by decide, log_ok (by decide) (by decide), fun v1 o1 a1 b1 hP2 => ⟨_, _, rfl, rfl, hz9 8 (by decide), fun l hl => ?_⟩⟩⟩
      have n2 : Pn p c (m + 2) H (upd (upd H p o0) p o1) := ((Pn.refl hP).draw hP1).draw hP2
      have n3 := n2.new (o := .lst [.int 1, .int 2, .int 3, .int 4, .int 5, .int 8, .int 16, .int (1 + v1)]) hl
      refine ⟨p, c, m + 2, .ref l, _, rfl, n3.pen, .lst (.inl (.inl upd_same)), by omega, Nat.succ_pos _, (by show 8 < 1073741824; decide), fun i v o hv hP3 => ?_⟩
      obtain ⟨z, hz, rfl⟩ := pick_int (ns := [1, 2, 3, 4, 5, 8, 16, 1 + v1]) hv
      have n4 := n3.draw hP3
      refine ⟨_, rfl, hz9 5 (by decide), fun q hq => ?_⟩
      refine ⟨_, z, q, rfl, n4.new hq, n4.free hq, upd_same, ?_, ?_⟩
      · simp at hz; omega
      · simp at hz; omega
    rintro σ G1 ⟨b, B, q, rfl, n1, hq0, hq1, hB1, hB2⟩
    have hnq : ∀ {m' : Nat} {G : Hp}, Pn p c m' H G → p ≠ q := fun h => (h.neP hq0).1
    refine ⟨fun σ G => ∃ (E X : Int), σ = [some (.ref p), some (.ref q)] ∧ Pn p c (m + 7) H G ∧ G q = some (.lst [.bl b, .int B, .int E, .int X, .int (-1)]) ∧ 0 ≤ E ∧ E ≤ 4 ∧ 0 ≤ X ∧ X ≤ 24 ∧ (0 < E → 1 ≤ X) ∧ (¬ 0 < E → X = 0), ?_, ?_⟩
    · refine ⟨_, rfl, p, c, m + 3, 2, rfl, n1.pen, by omega, by decide, log_ok (by decide) (by decide), fun v0 o0 _ _ hP1 => ⟨rfl, _, rfl, ?_⟩⟩
      have n2 := n1.draw hP1
      have hq2 : upd G1 p o0 q = some (.lst [.bl b, .int B, .int 0, .int 0, .int (-1)]) := by rw [upd_ne (hnq n1).symm]; exact hq1
      refine ite2 (fun _ => ?_) (fun _ => ?_)
      · refine ⟨_, rfl, p, c, m + 4, 4, rfl, n2.pen, by omega, by decide, log_ok (by decide) (by decide), fun v1 o1 a1 b1 hP2 => ⟨_, _, rfl, rfl, _, rfl, q, _, _, 2, rfl, rfl, by rw [upd_ne (hnq n1).symm]; exact hq2, by rfl, ?_⟩⟩
        have n3 := (n2.draw hP2).put (o := .lst ([.bl b, .int B, .int 0, .int 0, .int (-1)].set 2 (.int (1 + v1)))) hq0
        refine ⟨_, rfl, _, rfl, p, c, m + 5, 24, rfl, n3.pen, by omega, by decide, log_ok (by decide) (by decide), fun v2 o2 a2 b2 hP3 => ⟨_, _, rfl, rfl, hz9 6 (by decide), fun l hl => ?_⟩⟩
        have n4 := n3.draw hP3
        have n5 := n4.new (o := .lst [.int 1, .int 3, .int 6, .int 12, .int 24, .int (1 + v2)]) hl
        refine ⟨p, c, m + 6, .ref l, _, rfl, n5.pen, .lst (.inl (.inl upd_same)), by omega, Nat.succ_pos _, (by show 6 < 1073741824; decide), fun i v o hv hP4 => ?_⟩
        obtain ⟨z, hz, rfl⟩ := pick_int (ns := [1, 3, 6, 12, 24, 1 + v2]) hv
        have n6 := n5.draw hP4
        have hq4 : upd (upd (upd (upd (upd (upd G1 p o0) p o1) q (.lst ([.bl b, .int B, .int 0, .int 0, .int (-1)].set 2 (.int (1 + v1))))) p o2) l (.lst [.int 1, .int 3, .int 6, .int 12, .int 24, .int (1 + v2)])) p o q = some (.lst [.bl b, .int B, .int (1 + v1), .int 0, .int (-1)]) := by
          have e1 : upd (upd (upd (upd G1 p o0) p o1) q (.lst ([.bl b, .int B, .int 0, .int 0, .int (-1)].set 2 (.int (1 + v1))))) p o2 q = some (.lst [.bl b, .int B, .int (1 + v1), .int 0, .int (-1)]) := by
            rw [upd_ne (hnq n1).symm, upd_same]
            rfl
          rw [upd_ne (hnq n1).symm, upd_ne (ne_of_none e1 hl)]
          exact e1
        refine ⟨_, rfl, q, _, _, 3, rfl, rfl, hq4, by rfl, 1 + v1, z, rfl, n6.put hq0, upd_same, ?_⟩
        simp at hz
        omega
      · exact ⟨0, 0, rfl, n2.mono (by omega), hq2, by decide, by decide, by decide, by decide, fun z => absurd z (by decide), fun _ => rfl⟩
    rintro σ G2 ⟨E', X, rfl, n2, hq2, hE0, hE4, hX0, hX24, hEX, hX⟩
    refine ⟨fun σ G => ∃ hd : Int, σ = [some (.ref p), some (.ref q)] ∧ Pn p c (m + 10) H G ∧ G q = some (.lst [.bl b, .int B, .int E', .int X, .int hd]) ∧ -1 ≤ hd ∧ hd ≤ 64, ?_, ?_⟩
    · refine ⟨_, rfl, p, c, m + 7, 2, rfl, n2.pen, by omega, by decide, log_ok (by decide) (by decide), fun v0 o0 _ _ hP1 => ⟨rfl, _, rfl, ?_⟩⟩
      have n3 := n2.draw hP1
      have hq3 : upd G2 p o0 q = some (.lst [.bl b, .int B, .int E', .int X, .int (-1)]) := by rw [upd_ne (hnq n1).symm]; exact hq2
      refine ite2 (fun _ => ?_) (fun _ => ?_)
      · refine ⟨_, rfl, _, rfl, p, c, m + 8, 65, rfl, n3.pen, by omega, by decide, log_ok (by decide) (by decide), fun v2 o2 a2 b2 hP3 => ⟨hz9 6 (by decide), fun l hl => ?_⟩⟩
        have n4 := n3.draw hP3
        have n5 := n4.new (o := .lst [.int 0, .int 1, .int 3, .int 8, .int 64, .int v2]) hl
        refine ⟨p, c, m + 9, .ref l, _, rfl, n5.pen, .lst (.inl (.inl upd_same)), by omega, Nat.succ_pos _, (by show 6 < 1073741824; decide), fun i v o hv hP4 => ?_⟩
        obtain ⟨z, hz, rfl⟩ := pick_int (ns := [0, 1, 3, 8, 64, v2]) hv
        have n6 := n5.draw hP4
        have hq4 : upd (upd (upd (upd G2 p o0) p o2) l (.lst [.int 0, .int 1, .int 3, .int 8, .int 64, .int v2])) p o q = some (.lst [.bl b, .int B, .int E', .int X, .int (-1)]) := by
          have e1 : upd (upd G2 p o0) p o2 q = some (.lst [.bl b, .int B, .int E', .int X, .int (-1)]) := by
            rw [upd_ne (hnq n1).symm]
            exact hq3
          rw [upd_ne (hnq n1).symm, upd_ne (ne_of_none e1 hl)]
          exact e1
        refine ⟨_, rfl, q, _, _, 4, rfl, rfl, hq4, by rfl, z, rfl, n6.put hq0, upd_same, ?_⟩
        simp at hz
        omega
      · exact ⟨-1, rfl, n3.mono (by omega), hq3, by decide, by decide⟩
    rintro σ G3 ⟨hd, rfl, n3, hq3, h1, h64⟩
    refine ⟨_, rfl, ?_⟩
    refine k ⟨b, B.toNat, E'.toNat, X.toNat, if hd < 0 then 8 else hd.toNat⟩ hd q G3 n3 hq0 ?_ ⟨⟨⟨?_, ?_, ?_, ?_, ?_⟩, ?_, h64, ?_⟩, ?_⟩
    · rw [hq3]
      show some (HO.lst [.bl b, .int B, .int E', .int X, .int hd]) = some (HO.lst [.bl b, .int (B.toNat : Int), .int (E'.toNat : Int), .int (X.toNat : Int), .int hd])
      rw [Int.toNat_of_nonneg (by omega), Int.toNat_of_nonneg hE0, Int.toNat_of_nonneg hX0]
    · show 1 ≤ B.toNat
      omega
    · show B.toNat ≤ 16
      omega
    · show E'.toNat ≤ 4
      omega
    · show X.toNat ≤ 24
      omega
    · show (if hd < 0 then 8 else hd.toNat) ≤ 64
      split <;> omega
    · intro (z : 0 < E'.toNat)
      show 1 ≤ X.toNat
      have := hEX (by omega)
      omega
    · unfold HdOk
      show (((if hd < 0 then 8 else hd.toNat : Nat)) : Int) = if hd < 0 then 8 else hd
      split <;> omega
    · intro (z : ¬ 0 < E'.toNat)
      show X.toNat = 0
      have := hX (by omega)
      omega
end
end Wq
set_option Elab.async false
set_option linter.all false
set_option maxRecDepth 100000
set_option maxHeartbeats 4000000
namespace Wq
open PySem PySem.Spec PyProof.Rows L2
open SX (S S_len S_cat S_beq_eq)
theorem lit_b0 : V.str "blocks of " = V.str (S (cBlk false)) := congrArg V.str (show ("blocks of " : Str) = S (cBlk false) by decide +kernel)
theorem lit_b1 : V.str "blocks free to " = V.str (S (cBlk true)) := congrArg V.str (show ("blocks free to " : Str) = S (cBlk true) by decide +kernel)
theorem lit_e : V.str "\nexceptions " = V.str (S cExc) := congrArg V.str (show ("\nexceptions " : Str) = S cExc by decide +kernel)
theorem lit_o : V.str " of " = V.str (S cOf) := congrArg V.str (show (" of " : Str) = S cOf by decide +kernel)
theorem lit_t : V.str " bits" = V.str (S cBits) := congrArg V.str (show (" bits" : Str) = S cBits by decide +kernel)
theorem lit_h : V.str "\nhead " = V.str (S cHead) := congrArg V.str (show ("\nhead " : Str) = S cHead by decide +kernel)
theorem lit_at (b : Bool) : atI [V.str "blocks of ", V.str "blocks free to "] (if b = true then 1 else 0) = some (V.str (S (cBlk b))) := by
  cases b
  · show some (V.str "blocks of ") = _
    rw [lit_b0]
  · show some (V.str "blocks free to ") = _
    rw [lit_b1]
theorem num_V (n : Nat) : V.str (Str.ofString (toString ((n : Nat) : Int))) = V.str (S (TL.numL n)) := congrArg V.str (SX.num_S n)
theorem log_n {n : Nat} (h : n < 100) : ((n : Nat) : Int).natAbs.log2 < 1920 := by
  have h2 : ((n : Nat) : Int).natAbs.log2 < 30 := PySem.Flt.log2_lt_of (by decide) (by omega)
  omega
theorem catV (a b : List Nat) : V.str (S a ++ S b) = V.str (S (a ++ b)) := congrArg V.str (S_cat a b)
theorem lenV {a b : List Nat} (h : a.length + b.length ≤ 1000) : (S a).length + (S b).length ≤ sizeLine := by
  rw [S_len, S_len, sizeLine_eq]
  omega
abbrev sPT : Stmt := top 27
abbrev NPT : List Str := ["_law_parts_here", "_law_text"]
theorem scPT : FnScope NPT ["_law_parts_here"] (defScope sPT) := ⟨rfl, rfl, rfl, by decide +kernel, rfl, by decide +kernel, by decide +kernel⟩
def spPT (K : PySem.W.Frag) : Sp := fun vs H Q _ => ∃ (q : Addr) (y : Ly) (hd : Int), vs = [.ref q] ∧ SqL K H q (paV y hd) ∧ PaX y hd ∧ ∀ H', Same H H' → Q (.str (S (Tx y hd))) H'
section
variable {P : Program} {w : World} {K : PySem.W.Frag} {mg : Str → Option Value} {base : Heap} {C : Addr}
theorem ok_PT (D : DefAt K mg "_law_parts_text" sPT) (T : Txt K mg) (TX : TxtL K mg C) : Cl P w K mg base 1 "_law_parts_text" (spPT K) := by
  refine cl_of D scPT (fun vs H Q E h => ?_) (fun _ _ _ _ _ _ us hl => match us, hl with | [_], _ => rfl) (fun f cdv A1 outer s H vs Q E hr h => ?_)
  · obtain ⟨q, y, hd, rfl, _⟩ := h
    rfl
  · obtain ⟨q, y, hd, rfl, hq, hp, k⟩ := h
    refine ⟨_, C8.pss_cut (ps_set (i := 1) scPT.nd rfl (Or.inl rfl) (pe_op op_add_str (pe_ix ix_list (pe_lst (pa_cons pe_str (pa_cons pe_str pa_nil))) (pe_callTy call_int1 (by rfl) (by exact T.int) PyProof.Rows.boot_int (pa_cons (pe_ix ix_list (pv 0) pe_int (fun _ _ => rfl)) pa_nil)) (fun _ _ => rfl)) (pe_callTy call_str_int (by rfl) (by exact TX.str) (by decide +kernel) (pa_cons (pe_ix ix_list (pv 0) pe_int (fun _ _ => rfl)) pa_nil))))
(C8.pss_cut (ps_if (pt_cmpR op_gt (pe_ix ix_list (pv 0) pe_int (fun _ _ => rfl)) pe_int (nomark _))
(pss_one (ps_set (i := 1) scPT.nd rfl (Or.inl rfl) (pe_op op_add_str (pe_op op_add_str (pe_op op_add_str (pe_op op_add_str (pe_op op_add_str (pv 1) pe_str) (pe_callTy call_str_int (by rfl) (by exact TX.str) (by decide +kernel) (pa_cons (pe_ix ix_list (pv 0) pe_int (fun _ _ => rfl)) pa_nil))) pe_str) (pe_callTy call_str_int (by rfl) (by exact TX.str) (by decide +kernel) (pa_cons (pe_ix ix_list (pv 0) pe_int (fun _ _ => rfl)) pa_nil))) pe_str)))
pss_nil)
(C8.pss_cut (ps_if (pt_cmpR op_ge (pe_ix ix_list (pv 0) pe_int (fun _ _ => rfl)) pe_int (nomark _))
(pss_one (ps_set (i := 1) scPT.nd rfl (Or.inl rfl) (pe_op op_add_str (pe_op op_add_str (pe_op op_add_str (pv 1) pe_str) (pe_callTy call_str_int (by rfl) (by exact TX.str) (by decide +kernel) (pa_cons (pe_ix ix_list (pv 0) pe_int (fun _ _ => rfl)) pa_nil))) pe_str)))
pss_nil)
(pss_one (ps_ret (pv 1))))), ?_⟩
    have ok := hp.ok
    have bB : y.B < 100 := by have := ok.b16; omega
    have bE : y.E < 100 := by have := ok.e; omega
    have bX : y.X < 100 := by have := ok.x; omega
    have bH : hd.toNat < 100 := by have := hp.h64; omega
    have h1 := num_len2 bB
    have h2 := num_len2 bE
    have h3 := num_len2 bX
    have h4 := num_len2 bH
    have h5 : (cBlk y.fr).length ≤ 15 := by cases y.fr <;> decide
    have l1 : cExc.length = 12 := rfl
    have l2 : cOf.length = 4 := rfl
    have l3 : cBits.length = 5 := rfl
    have l4 : cHead.length = 6 := rfl
    have h6 : (tEx y.E y.X).length ≤ 30 := by
      unfold tEx
      split
      · simp only [List.length_append]
        omega
      · exact Nat.zero_le _
    refine ⟨fun σ G => σ = [some (.ref q), some (.str (S (cBlk y.fr ++ TL.numL y.B)))] ∧ Same H G, ?_, ?_⟩
    · refine ⟨by show 2 ≤ sizeLine; decide, fun l hl => ?_⟩
      have s1 := sNew (o := .lst [V.str "blocks of ", V.str "blocks free to "]) hl
      have hq1 := SqL_same hq s1
      refine ⟨_, rfl, q, _, 0, .bl y.fr, rfl, rfl, hq1, rfl, .inr ⟨y.fr, rfl, ?_⟩⟩
      refine ⟨l, _, _, _, rfl, rfl, .inl (.inl upd_same), lit_at y.fr, ?_⟩
      refine ⟨_, rfl, q, _, 1, nI y.B, rfl, rfl, hq1, rfl, _, rfl, log_n bB, ?_⟩
      exact ⟨S (cBlk y.fr), S (TL.numL y.B), rfl, num_V y.B, lenV (by omega), congrArg (fun z => [some (V.ref q), some z]) (catV _ _), s1⟩
    rintro σ G1 ⟨rfl, s1⟩
    refine ⟨fun σ G => σ = [some (.ref q), some (.str (S ((cBlk y.fr ++ TL.numL y.B) ++ tEx y.E y.X)))] ∧ Same H G, ?_, ?_⟩
    · have hq1 := SqL_same hq s1
      generalize hT : cBlk y.fr ++ TL.numL y.B = t1 at *
      have ht1 : t1.length ≤ 17 := by rw [← hT, List.length_append]; omega
      refine ⟨_, rfl, q, _, 2, nI y.E, rfl, rfl, hq1, rfl, _, _, rfl, rfl, _, rfl, ?_⟩
      unfold tEx
      by_cases hE : 0 < y.E
      · rw [if_pos hE]
        refine (if_pos (decide_eq_true (by show (0 : Int) < ((y.E : Nat) : Int); omega))).mpr ?_
        refine ⟨_, rfl, S t1, S cExc, rfl, lit_e, lenV (by omega), ?_⟩
        refine ⟨_, rfl, q, _, 2, nI y.E, rfl, rfl, hq1, rfl, _, rfl, log_n bE, S (t1 ++ cExc), S (TL.numL y.E), catV _ _, num_V y.E, lenV (by rw [List.length_append]; omega), ?_⟩
        refine ⟨S (t1 ++ cExc ++ TL.numL y.E), S cOf, catV _ _, lit_o, lenV (by simp only [List.length_append]; omega), ?_⟩
        refine ⟨_, rfl, q, _, 3, nI y.X, rfl, rfl, hq1, rfl, _, rfl, log_n bX, S (t1 ++ cExc ++ TL.numL y.E ++ cOf), S (TL.numL y.X), catV _ _, num_V y.X, lenV (by simp only [List.length_append]; omega), ?_⟩
        refine ⟨S (t1 ++ cExc ++ TL.numL y.E ++ cOf ++ TL.numL y.X), S cBits, catV _ _, lit_t, lenV (by simp only [List.length_append]; omega), ?_, s1⟩
        rw [catV]
        simp only [List.append_assoc]
        rfl
      · rw [if_neg hE]
        refine (if_neg (fun z => hE (by have z : (0 : Int) < ((y.E : Nat) : Int) := of_decide_eq_true z; omega))).mpr ?_
        exact ⟨by rw [List.append_nil], s1⟩
    rintro σ G2 ⟨rfl, s2⟩
    refine ⟨fun σ G => σ = [some (.ref q), some (.str (S (((cBlk y.fr ++ TL.numL y.B) ++ tEx y.E y.X) ++ tHd hd)))] ∧ Same H G, ?_, ?_⟩
    · have hq1 := SqL_same hq s2
      generalize hT : (cBlk y.fr ++ TL.numL y.B) ++ tEx y.E y.X = t1 at *
      have ht1 : t1.length ≤ 60 := by rw [← hT]; simp only [List.length_append]; omega
      refine ⟨_, rfl, q, _, 4, .int hd, rfl, rfl, hq1, rfl, _, _, rfl, rfl, _, rfl, ?_⟩
      unfold tHd
      by_cases h0 : 0 ≤ hd
      · rw [if_pos h0]
        refine (if_pos (decide_eq_true h0)).mpr ?_
        refine ⟨_, rfl, S t1, S cHead, rfl, lit_h, lenV (by omega), ?_⟩
        have ehd : hd = ((hd.toNat : Nat) : Int) := by omega
        refine ⟨_, rfl, q, _, 4, .int hd, rfl, rfl, hq1, rfl, _, rfl, by rw [ehd]; exact log_n bH, S (t1 ++ cHead), S (TL.numL hd.toNat), catV _ _, ?_, lenV (by rw [List.length_append]; omega), ?_⟩
        · have := num_V hd.toNat
          rw [← ehd] at this
          exact this
        refine ⟨S (t1 ++ cHead ++ TL.numL hd.toNat), S cBits, catV _ _, lit_t, lenV (by simp only [List.length_append]; omega), ?_, s2⟩
        rw [catV]
        simp only [List.append_assoc]
        rfl
      · rw [if_neg h0]
        refine (if_neg (fun z => h0 (of_decide_eq_true z))).mpr ?_
        exact ⟨by rw [List.append_nil], s2⟩
    rintro σ G3 ⟨rfl, s3⟩
    refine ⟨_, rfl, ?_⟩
    have e : ((cBlk y.fr ++ TL.numL y.B) ++ tEx y.E y.X) ++ tHd hd = Tx y hd := by
      unfold Tx
      simp only [List.append_assoc]
    rw [e]
    exact k G3 s3
end
end Wq
set_option Elab.async false
set_option linter.all false
set_option maxRecDepth 100000
set_option maxHeartbeats 4000000
namespace Wq
open PySem PySem.Spec PyProof.Rows L2
open SX (S S_len S_cat S_beq_eq)
abbrev sLS : Stmt := top 32
abbrev NLS : List Str := ["_law_pen_here", "_law_many", "_law_rare", "_law_found", "_law_small", "_law_k", "_law_edge", "_law_great"]
theorem scLS : FnScope NLS ["_law_pen_here", "_law_many", "_law_rare"] (defScope sLS) := ⟨rfl, rfl, rfl, by decide +kernel, rfl, by decide +kernel, by decide +kernel⟩
def spLS : Sp := fun vs H Q _ => ∃ (p c : Addr) (m n : Nat), vs = [.ref p, nI n, .int 4] ∧ PenAt H p c m ∧ m < 1000000 ∧ n ≤ 30 ∧
  ∀ (ss : List Int) (q : Addr) (G : Hp), ss.length = n → St ss → Pn p c (m + 200) H G → H q = none → G q = some (.lst (ss.map V.int)) → Q (.ref q) G
theorem pow_step {k : Nat} (h : k < 25) : (1 : Int) ≤ 2 ^ k ∧ (2 : Int) ^ k ≤ 16777216 := by
  have : (List.range 25).all (fun k => decide ((1 : Int) ≤ 2 ^ k ∧ (2 : Int) ^ k ≤ 16777216)) = true := by decide +kernel
  exact of_decide_eq_true (List.all_eq_true.mp this k (List.mem_range.mpr h))
theorem St.snoc {ss : List Int} {z : Int} (h : St ss) (h0 : 0 ≤ z) (h1 : z < 16777216) : St (ss ++ [z]) := fun s hs => by
  rcases List.mem_append.mp hs with a | a
  · exact h s a
  · rw [List.mem_singleton.mp a]; exact ⟨h0, h1⟩
section
variable {P : Program} {w : World} {K : PySem.W.Frag} {mg : Str → Option Value} {base : Heap} {C : Addr}
theorem ok_LS (D : DefAt K mg "_law_steps" sLS) (T : Txt K mg) (CD : Cl P w K mg base 1 "_law_draw" (spDraw K)) (CP : Cl P w K mg base 2 "_law_pick" (spPick K)) : Cl P w K mg base 3 "_law_steps" spLS := by
  refine cl_of D scLS (fun vs H Q E h => ?_) (fun _ _ _ _ _ _ us hl => match us, hl with | [_, _, _], _ => rfl) (fun f cdv A1 outer s H vs Q E hr h => ?_)
  · obtain ⟨p, c, m, n, rfl, _⟩ := h
    rfl
  · obtain ⟨p, c, m, n, rfl, hP, hm, hn, k⟩ := h
    refine ⟨_, C8.pss_cut (ps_par (i := 3) (j := 4) (by rfl) scLS.nd rfl rfl (by decide) rfl rfl (pa_cons (pe_lst pa_nil) (pa_cons (pe_op op_add pe_int (pe_cl CP hr (by decide) rfl (pa_cons (pv 0) (pa_cons (pe_lst (pa_cons pe_int (pa_cons pe_int (pa_cons pe_int (pa_cons pe_int (pa_cons pe_int (pa_cons pe_int pa_nil))))))) pa_nil)))) pa_nil)) (by rfl))
(C8.pss_cut (ps_for PassesOwn.never rfl (pi_range1 rfl (by exact T.range) (pa_cons (pv 1) pa_nil)) (pg_name (i := 5) scLS.nd rfl (Or.inl rfl))
(pss_cons (ps_set (i := 6) scLS.nd rfl (Or.inl rfl) (pe_op op_oneShl pe_int (pe_cl CD hr (by decide) rfl (pa_cons (pv 0) (pa_cons pe_int pa_nil)))))
(pss_cons (ps_set (i := 7) scLS.nd rfl (Or.inl rfl) (pe_lst (pa_cons (pe_op op_sub (pv 6) pe_int) (pa_cons (pe_op op_fdiv (pv 6) pe_int) (pa_cons (pe_cl CD hr (by decide) rfl (pa_cons (pv 0) (pa_cons (pe_op op_oneShl pe_int pe_int) pa_nil))) (pa_cons (pe_op op_sub (pe_op op_oneShl pe_int pe_int) pe_int) pa_nil))))))
(pss_one (ps_expr (pe_bm PySem.F.plainAttrs_list PySem.F.slot_list_append PySem.F.type_list_append mt_append (pv 3) (pa_cons (pe_ifExp (pt_cmpR op_gt (pe_cl CD hr (by decide) rfl (pa_cons (pv 0) (pa_cons (pv 2) pa_nil))) pe_int (nomark _)) (pe_cl CD hr (by decide) rfl (pa_cons (pv 0) (pa_cons (pv 4) pa_nil))) (pe_cl CP hr (by decide) rfl (pa_cons (pv 0) (pa_cons (pv 7) pa_nil)))) pa_nil)))))))
(pss_one (ps_ret (pv 3)))), ?_⟩
    refine ⟨fun σ G => ∃ (q : Addr) (sm : Int), σ = [some (.ref p), some (nI n), some (.int 4), some (.ref q), some (.int sm), none, none, none] ∧ Pn p c (m + 1) H G ∧ H q = none ∧ G q = some (.lst []) ∧ 1 ≤ sm ∧ sm ≤ 1001, ?_, ?_⟩
    · refine ⟨by show 0 ≤ sizeLine; decide, fun q hq => ?_⟩
      have n1 := (Pn.refl hP).new (o := .lst []) hq
      refine ⟨_, rfl, by show 6 ≤ sizeLine; decide, fun l hl => ?_⟩
      have n2 := n1.new (o := .lst [.int 0, .int 1, .int 3, .int 7, .int 40, .int 1000]) hl
      refine ⟨p, c, m, .ref l, _, rfl, n2.pen, .lst (.inl (.inl upd_same)), by omega, Nat.succ_pos _, (by show 6 < 1073741824; decide), fun i v o hv hP1 => ?_⟩
      obtain ⟨z, hz, rfl⟩ := pick_int (ns := [0, 1, 3, 7, 40, 1000]) hv
      have hqq : upd H q (.lst []) q = some (.lst []) := upd_same
      have n3 := ((Pn.refl n2.pen).draw hP1).lst (q := q) (xs := []) (by rw [upd_ne (ne_of_none hqq hl)]; exact hqq)
      refine ⟨_, _, rfl, rfl, _, _, rfl, q, 1 + z, rfl, n2.draw hP1, hq, n3, ?_, ?_⟩
      · simp at hz; omega
      · simp at hz; omega
    rintro σ G1 ⟨q, sm, rfl, n1, hq0, hq1, hs1, hs2⟩
    refine ⟨fun σ G => ∃ (ss : List Int) (x5 x6 x7 : Option V), σ = [some (.ref p), some (nI n), some (.int 4), some (.ref q), some (.int sm), x5, x6, x7] ∧ ss.length = n ∧ St ss ∧ Pn p c (m + 200) H G ∧ G q = some (.lst (ss.map V.int)), ?_, ?_⟩
    · refine ⟨_, rfl, _, rfl, by omega, by omega, ?_⟩
      refine for_range (lo := 0) (n := ((n : Nat) : Int).toNat) (fun k σ G => ∃ (ss : List Int) (x5 x6 x7 : Option V), σ = [some (.ref p), some (nI n), some (.int 4), some (.ref q), some (.int sm), x5, x6, x7] ∧ ss.length = k ∧ St ss ∧ Pn p c (m + 1 + 4 * k) H G ∧ G q = some (.lst (ss.map V.int))) ⟨[], _, _, _, rfl, rfl, fun s h => (nomatch h), n1, hq1⟩ ?_ ?_
      · rintro j σ G hj ⟨ss, x5, x6, x7, rfl, hl, hst, hn1, hq2⟩
        have hj : j < 30 := by omega
        refine ⟨_, rfl, p, c, m + 1 + 4 * j, 25, rfl, hn1.pen, by omega, by decide, log_ok (by decide) (by decide), fun v0 o0 a0 b0 hP1 => ?_⟩
        have n2 := (Pn.refl hn1.pen).draw hP1
        have hv0 : v0 = ((v0.toNat : Nat) : Int) := by omega
        refine ⟨v0.toNat, rfl, congrArg V.int hv0, by omega, ?_⟩
        have hpw := pow_step (show v0.toNat < 25 by omega)
        generalize (2 : Int) ^ v0.toNat = ed at *
        refine ⟨_, rfl, _, _, rfl, rfl, _, rfl, _, _, rfl, rfl, ⟨by decide, by decide⟩, _, rfl, 24, rfl, rfl, by decide, p, c, m + 1 + 4 * j + 1, _, rfl, n2.pen, by omega, by decide +kernel, by decide +kernel, fun v1 o1 a1 b1 hP2 => ?_⟩
        have n3 := n2.draw hP2
        refine ⟨24, rfl, rfl, by decide, _, _, rfl, rfl, by show 4 ≤ sizeLine; decide, fun l hl2 => ?_⟩
        have h24 : (2 : Int) ^ 24 - 1 = 16777215 := by decide +kernel
        have b1 : v1 < 16777216 := by
          have b1 : v1 < (2 : Int) ^ 24 := b1
          omega
        have n4 := n3.new (o := .lst [.int (ed - 1), .int (ed / 2), .int v1, .int ((2 : Int) ^ 24 - 1)]) hl2
        have hl3 : upd (upd (upd G p o0) p o1) l (.lst [.int (ed - 1), .int (ed / 2), .int v1, .int ((2 : Int) ^ 24 - 1)]) l = some (.lst ([ed - 1, ed / 2, v1, (2 : Int) ^ 24 - 1].map V.int)) := upd_same
        refine ⟨_, rfl, .inl ⟨rfl, _, .inl (.inl (n4.lst hq2))⟩, _, rfl, _, rfl, p, c, m + 1 + 4 * j + 2, 4, rfl, n4.pen, by omega, by decide, log_ok (by decide) (by decide), fun v2 o2 a2 b2 hP3 => ⟨_, _, rfl, rfl, _, rfl, ?_⟩⟩
        have n5 := n4.draw hP3
        have hlen : (ss.map V.int).length < sizeLine := by rw [List.length_map, sizeLine_eq]; omega
        refine ite2 (fun _ => ?_) (fun _ => ?_)
        · refine ⟨_, rfl, _, rfl, p, c, m + 1 + 4 * j + 3, sm, rfl, n5.pen, by omega, by omega, log_ok (by omega) (by omega), fun v3 o3 a3 b3 hP4 => ?_⟩
          have n6 := n5.draw hP4
          refine ⟨q, _, _, rfl, rfl, n6.lst hq2, hlen, ?_⟩
          refine ⟨ss ++ [v3], _, _, _, rfl, by rw [List.length_append, hl]; rfl, hst.snoc a3 (by omega), ?_, ?_⟩
          · exact (hn1.trans n6).put hq0
          · rw [upd_same, List.map_append]
            rfl
        · refine ⟨_, rfl, _, rfl, p, c, m + 1 + 4 * j + 3, .ref l, _, rfl, n5.pen, .lst (.inl (.inl ((Pn.refl n4.pen).draw hP3 |>.lst hl3))), by omega, Nat.succ_pos _, (by show 4 < 1073741824; decide), fun i v o hv hP4 => ?_⟩
          have n6 := n5.draw hP4
          obtain ⟨z, hz, rfl⟩ := pick_int (ns := [ed - 1, ed / 2, v1, (2 : Int) ^ 24 - 1]) hv
          rw [h24] at hz
          have hz2 : 0 ≤ z ∧ z < 16777216 := by
            simp at hz
            omega
          refine ⟨q, _, _, rfl, rfl, n6.lst hq2, hlen, ?_⟩
          refine ⟨ss ++ [z], _, _, _, rfl, by rw [List.length_append, hl]; rfl, hst.snoc hz2.1 hz2.2, ?_, ?_⟩
          · exact (hn1.trans n6).put hq0
          · rw [upd_same, List.map_append]
            rfl
      · rintro σ G ⟨ss, x5, x6, x7, rfl, hl, hst, hn1, hq2⟩
        exact ⟨ss, _, _, _, rfl, by omega, hst, hn1.mono (by omega), hq2⟩
    rintro σ G2 ⟨ss, x5, x6, x7, rfl, hl, hst, n2, hq2⟩
    exact ⟨_, rfl, k ss q G2 hl hst n2 hq0 hq2⟩
end
end Wq
set_option Elab.async false
set_option linter.all false
set_option maxRecDepth 100000
set_option maxHeartbeats 4000000
namespace Wq
open PySem PySem.Spec PyProof.Rows L2
open SX (S S_len S_cat S_beq_eq)
abbrev sRd : Stmt := top 35
theorem scRd : FnScope ["_law_layout", "_law_steps_here", "_law_told", "problem"] ["_law_layout", "_law_steps_here"] (defScope sRd) := ⟨rfl, rfl, rfl, by decide +kernel, rfl, by decide +kernel, by decide +kernel⟩
def spRd (K : PySem.W.Frag) (C : Addr) : Sp := fun vs H Q _ => ∃ (a l : Addr) (y : Ly) (ss : List Int), vs = [.ref a, .ref l] ∧ LyAt C H a y ∧ y.Ok ∧ Sqx K H l (ss.map V.int) ∧ St ss ∧ ss.length ≤ 2000 ∧ ¬ (0 < ss.length ∧ ss.length ≤ y.B) ∧
  ∀ r G, Same H G → G r = some (.tup [.str "steps", nI ss.length]) → Q (.ref r) G
def bRd (K : PySem.W.Frag) (C CE : Addr) (W : WX) : TS := fun D σ H => ∃ (a l : Addr) (y : Ly) (ss : List Int), σ = [some (.ref a), some (.ref l), some .non, none] ∧ LyAt C H a y ∧ y.Ok ∧ Sqx K H l (ss.map V.int) ∧ St ss ∧ ss.length ≤ 2000 ∧ ¬ (0 < ss.length ∧ ss.length ≤ y.B) ∧
  ∀ d H', Err2 H H' d [("number", nI ss.length), ("what", .str "steps")] → W (.ref CE) (some d) σ H'
def cRd (CE : Addr) (a : Addr) (cls : Value) (d : Option Addr) : TS := fun D σ H => ∃ (dd : Addr) (x0 x1 x2 : Option V) (n : Nat), cls = .ref CE ∧ d = some dd ∧ σ = [x0, x1, x2, some (.ref a)] ∧ H dd = some (.xd [("number", nI n), ("what", .str "steps")]) ∧
  ∀ t, H t = none → D.nx [x0, x1, some (.ref t), some (.ref a)] (upd H t (.tup [.str "steps", nI n]))
section
variable {P : Program} {w : World} {K : PySem.W.Frag} {mg : Str → Option Value} {base : Heap} {C CE fI fB : Addr} {fdB : FuncData}
theorem ok_Rd (D : DefAt K mg "_law_refused" sRd) (TX : TxtL K mg C) (TE : TxtE K mg CE fI "BadNumber" "what" "number") (MB : Meth K C "block_weight" fB) (GB : FnOk P w K mg base (L2.CX P w) 3 fB fdB ["self", "steps"] (spBW K C CE)) (bB : Binds K fdB ["self", "steps"] []) : Cl P w K mg base 4 "_law_refused" (spRd K C) := by
  refine cl_of D scRd (fun vs H Q E h => ?_) (fun _ _ _ _ _ _ us hl => match us, hl with | [_, _], _ => rfl) (fun f cdv A outer s H vs Q E hr h => ?_)
  · obtain ⟨a, l, y, ss, rfl, _⟩ := h
    rfl
  · obtain ⟨a, l, y, ss, rfl, hy, ok, hl, hst, hn, hno, k⟩ := h
    refine ⟨_, pss_cons (ps_set (i := 2) scRd.nd rfl (Or.inl rfl) pe_non)
(pss_cons (ps_try_as (i := 3) (tb := fun W => bRd K C CE W) (ts := cRd CE) (Wout := fun _ _ _ _ => False) rfl rfl scRd.nd rfl rfl ⟨rfl, by decide, Or.inl TE.gC⟩ takes0
      (fun W pn xe tk _ => pss_pre (pss_one (ps_expr (pe_methV (pv 0) TX.cl MB GB (hr.mono (by decide)) bB (fun σ => passAt tk σ) (pa_cons (pv 1) pa_nil)))) (fun D σ H hb => ?_))
      (fun a oe cls d pn hz hf => pss_pre (pss_one (ps_set (i := 2) scRd.nd rfl (Or.inl rfl) (pe_tup (pa_cons (pe_xf TE.xf TE.n1 hz hf (pv 3)) (pa_cons (pe_xf TE.xf TE.n2 hz hf (pv 3)) pa_nil))))) (fun D σ H hb => ?_)))
(pss_one (ps_ret (pv 2)))), ?_⟩
    · obtain ⟨a, l, y, ss, rfl, hy, ok, hl, hst, hn, hno, kk⟩ := hb
      obtain ⟨dx, tx, hd⟩ := id hy
      exact ⟨_, rfl, a, dx, _, rfl, hd, by rfl, _, rfl, a, l, y, ss, rfl, hy, ok, hl, hst, hn, fun h1 h2 => absurd ⟨h1, h2⟩ hno, fun _ d H' hE => kk d H' hE⟩
    · obtain ⟨dd, x0, x1, x2, n, rfl, rfl, rfl, hd, kk⟩ := hb
      refine ⟨_, rfl, rfl, rfl, dd, _, _, rfl, hd, (by rfl), _, rfl, rfl, rfl, dd, _, _, rfl, hd, (by rfl), by show 2 ≤ sizeLine; decide, fun t ht => ?_⟩
      exact kk t ht
    · refine ⟨a, l, y, ss, rfl, hy, ok, hl, hst, hn, hno, fun d H' hE => ?_⟩
      obtain ⟨s1, hd0, hd⟩ := hE
      refine ⟨true, TE.te, fun _ e he => ⟨d, _, _, _, _, rfl, rfl, rfl, hd, fun t ht => ?_⟩, fun z => by cases z⟩
      exact ⟨_, rfl, k t _ (sPut s1 (by
        cases e9 : H t with
        | none => rfl
        | some u => rw [s1 _ _ e9] at ht; cases ht)) upd_same⟩
end
end Wq
set_option Elab.async false
set_option linter.all false
set_option maxRecDepth 100000
set_option maxHeartbeats 4000000
namespace Wq
open PySem PySem.Spec PyProof.Rows L2
open PySem.W (dataLt alike alikeAll AlikeAll minD)
open SX (S S_len S_cat S_beq_eq)
/-! rows of numbers shown -/
def tD (ns : List Int) : PyData := .tuple (ns.map .int)
theorem dp_tup {K : PySem.W.Frag} {H : Hp} {a : Addr} {ns : List Int} (h : H a = some (.tup (ns.map V.int))) : Dp K H (.ref a) (tD ns) := .tup (.inl (.inl h)) (dp_ints ns)
theorem sh_ints {K : PySem.W.Frag} {H : Hp} : ∀ ns : List Int, ShAll K H (ns.map V.int) (ns.map .int)
  | [] => .nil
  | n :: ns => .cons (.int n) (sh_ints ns)
theorem sh_tup {K : PySem.W.Frag} {H : Hp} {a : Addr} {ns : List Int} (h : SqT K H a (ns.map V.int)) : Sh K H (.ref a) (tD ns) := .tup h (sh_ints ns)
theorem showAll_ints {ns : List Int} (h : ∀ n ∈ ns, n.natAbs < 10 ^ 12) : PyData.showableAll (ns.map .int) = true := by
  induction ns with
  | nil => rfl
  | cons n ns ih =>
    show ((PyData.int n).showable && PyData.showableAll (ns.map .int)) = true
    rw [ih (fun m hm => h m (List.mem_cons_of_mem _ hm)), Bool.and_true]
    show decide (n.natAbs.log2 < 1920) = true
    refine decide_eq_true ?_
    have hn := h n List.mem_cons_self
    by_cases h0 : n.natAbs = 0
    · rw [h0]; decide
    · exact (Nat.log2_lt h0).mpr (Nat.lt_trans hn (by decide +kernel))
theorem depAll_ints (ns : List Int) : PyData.depthAll (ns.map .int) = 0 := depth_ints ns
theorem joinL_up {B : Nat} (s : List Nat) : ∀ ps : List (List Nat), (∀ p ∈ ps, p.length ≤ B) → (TL.joinL s ps).length ≤ ps.length * (B + s.length)
  | [], _ => Nat.zero_le _
  | [p], h => by
    have := h p List.mem_cons_self
    show p.length ≤ 1 * (B + s.length)
    omega
  | p :: q :: r, h => by
    have h1 := h p List.mem_cons_self
    have h2 := joinL_up s (q :: r) fun z hz => h z (List.mem_cons_of_mem _ hz)
    rw [TL.joinL.eq_3, List.length_append, List.length_append]
    show _ ≤ ((q :: r).length + 1) * (B + s.length)
    rw [Nat.succ_mul]
    omega
theorem join_up {B : Nat} {y : Str} {ts : List Str} (h : ∀ t ∈ ts, t.length ≤ B) : (Str.join y ts).length ≤ ts.length * (B + y.length) := by
  rw [TL.len_tl, TL.tl_join]
  have := joinL_up (B := B) (TL.tl y) (ts.map TL.tl) fun p hp => by
    obtain ⟨t, ht, rfl⟩ := List.mem_map.mp hp
    rw [← TL.len_tl]
    exact h t ht
  rw [List.length_map] at this
  rw [TL.len_tl y]
  exact this
theorem shownAll_ints : ∀ ns : List Int, PyData.shownAll (ns.map .int) = ns.map fun n => Str.ofString (toString n)
  | [] => rfl
  | n :: ns => congrArg (List.cons (Str.ofString (toString n))) (shownAll_ints ns)
theorem tupleText_up {B : Nat} {ts : List Str} (h : ∀ t ∈ ts, t.length ≤ B) : (tupleText ts).length ≤ 3 + ts.length * (B + 2) := by
  unfold tupleText
  rw [strLen_append, strLen_append]
  have e1 : ("(" : Str).length = 1 := rfl
  have e2 : (Str.ofString (if (ts.length == 1) = true then ",)" else ")")).length ≤ 2 := by split <;> decide
  have e3 := join_up (y := ", ") h
  have e4 : (", " : Str).length = 2 := rfl
  rw [e4] at e3
  rw [e1]
  omega
theorem tD_ok {ns : List Int} (h : ∀ n ∈ ns, n.natAbs < 10 ^ 12) (hl : ns.length ≤ 5000) : (tD ns).showable = true ∧ (tD ns).depth ≤ 60 ∧ (tD ns).shown.length ≤ sizeLine := by
  refine ⟨showAll_ints h, ?_, ?_⟩
  · show PyData.depthAll (ns.map .int) + 1 ≤ 60
    rw [depAll_ints]
    decide
  · show (tupleText (PyData.shownAll (ns.map .int))).length ≤ sizeLine
    rw [shownAll_ints]
    have := tupleText_up (B := 13) (ts := ns.map fun n => Str.ofString (toString n)) fun t ht => by
      obtain ⟨n, hn, rfl⟩ := List.mem_map.mp ht
      rw [PySem.ofString_length]
      exact int_text_length_le10 (by decide) (h n hn)
    rw [List.length_map] at this
    rw [sizeLine_eq]
    omega
/-- the text of a tuple of numbers: what repr wants, all at once -/
theorem repr_tup {K : PySem.W.Frag} {H : Hp} {a : Addr} {ns : List Int} {Q : VK} (ha : SqT K H a (ns.map V.int)) (h : ∀ n ∈ ns, n.natAbs < 10 ^ 12) (hl : ns.length ≤ 5000) (q : Q (.str (tD ns).shown) H) : rRepr K [.ref a] H Q :=
  ⟨.ref a, tD ns, rfl, sh_tup ha, (tD_ok h hl).1, (tD_ok h hl).2.1, (tD_ok h hl).2.2, q⟩
theorem repr_int {K : PySem.W.Frag} {H : Hp} {n : Int} {Q : VK} (h : n.natAbs < 10 ^ 12) (q : Q (.str (PyData.int n).shown) H) : rRepr K [.int n] H Q := by
  have h1 := showAll_ints (ns := [n]) (fun m hm => by rw [List.mem_singleton.mp hm]; exact h)
  have h1 : ((PyData.int n).showable && true) = true := h1
  rw [Bool.and_true] at h1
  refine ⟨.int n, .int n, rfl, .int n, h1, Nat.zero_le _, ?_, q⟩
  show (Str.ofString (toString n)).length ≤ sizeLine
  rw [PySem.ofString_length]
  have := int_text_length_le10 (k := 12) (by decide) h
  rw [sizeLine_eq]
  omega
theorem eqv_list {ns : List Int} : PyData.eqv (.list (ns.map .int)) (.list (ns.map .int)) = true := PySem.W.eqv_refl_alike _ (by rw [alike]; exact alike_ints ns ns)
theorem eqv_step {z : Str} {n : Int} : PyData.eqv (.tuple [.str z, .int n]) (.tuple [.str z, .int n]) = true := PySem.W.eqv_refl_alike _ (by rfl)
/-! how great weights are -/
theorem wB_is (y : Ly) (ws : List Int) : ∀ k p, wB y ws k = some p → p.1 = wOf y ws p.2 ∧ p.2 < k
  | 0, p, h => nomatch h
  | k + 1, p, h => by
    rw [wB_succ] at h
    unfold wS at h
    have ih := wB_is y ws k
    split at h
    · split at h
      · cases h
        exact ⟨rfl, Nat.lt_succ_self _⟩
      · rename_i p' hp'
        split at h
        · cases h
          exact ⟨rfl, Nat.lt_succ_self _⟩
        · cases h
          obtain ⟨a, b⟩ := ih p hp'
          exact ⟨a, by omega⟩
    · obtain ⟨a, b⟩ := ih p h
      exact ⟨a, by omega⟩
theorem Wt_bd {y : Ly} (ok : y.Ok) {ws : List Int} (hw : Wd ws) (hl : ws.length ≤ 2000) : (0 ≤ (Wt y ws).1 ∧ (Wt y ws).1 ≤ 200000) ∧ (Wt y ws).2.1 ≤ 4 ∧ 0 ≤ (Wt y ws).2.2 ∧ (Wt y ws).2.2 ≤ 64 := by
  unfold Wt
  cases e : wB y ws (mE y ws.length) with
  | none =>
    show ((0 : Int) ≤ 0 ∧ (0 : Int) ≤ 200000) ∧ (0 : Nat) ≤ 4 ∧ (0 : Int) ≤ 0 ∧ (0 : Int) ≤ 64
    decide
  | some p =>
    obtain ⟨a, b⟩ := wB_is y ws _ p e
    have hE := ok.e
    have hX := ok.x
    have hH := ok.h
    have h4 : p.2 ≤ 4 := by unfold mE at b; omega
    have hz := hw.at p.2
    refine ⟨?_, h4, hz.1, hz.2⟩
    show 0 ≤ p.1 ∧ p.1 ≤ 200000
    rw [a]
    unfold wOf
    have m1 : (ws.length : Int) * atZ ws p.2 ≤ 2000 * 64 := Int.mul_le_mul (by omega) hz.2 hz.1 (by decide)
    have m0 : 0 ≤ (ws.length : Int) * atZ ws p.2 := Int.mul_nonneg (by omega) hz.1
    have m2 : (p.2 : Int) * y.X ≤ 4 * 24 := Int.mul_le_mul (by omega) (by omega) (by omega) (by decide)
    have m3 : 0 ≤ (p.2 : Int) * y.X := Int.mul_nonneg (by omega) (by omega)
    omega
theorem Bw_bd {y : Ly} (ok : y.Ok) {ss : List Int} (h : St ss) (hl : ss.length ≤ 2000) : (0 ≤ (Bw y ss).1 ∧ (Bw y ss).1 ≤ 200000) ∧ (Bw y ss).2.1 ≤ 4 ∧ 0 ≤ (Bw y ss).2.2 ∧ (Bw y ss).2.2 ≤ 64 :=
  Wt_bd ok (wd_Wd h).desc (by rw [desc_len, List.length_map]; exact hl)
theorem gW_bd {y : Ly} (ok : y.Ok) {ss : List Int} (h : St ss) (hl : ss.length ≤ 2000) (b len : Nat) : 0 ≤ gW y ss b len ∧ gW y ss b len ≤ 200000 :=
  (Bw_bd ok (h.part b len) (by rw [List.length_take, List.length_drop]; omega)).1
theorem Wc_bd {g : Nat → Nat → Int} (hg : ∀ b l, 0 ≤ g b l ∧ g b l ≤ 200000) (n : Nat) : ∀ (p : List Nat) (r : Nat), 0 ≤ Wc g n r p ∧ Wc g n r p ≤ (p.length : Int) * 200000
  | [], r => ⟨by show (0 : Int) ≤ 0; decide, by show (0 : Int) ≤ 0 * 200000; decide⟩
  | l :: p, r => by
    have h1 := hg (n - r) l
    have h2 := Wc_bd hg n p (r - l)
    show 0 ≤ g (n - r) l + Wc g n (r - l) p ∧ g (n - r) l + Wc g n (r - l) p ≤ ((p.length + 1 : Nat) : Int) * 200000
    omega
theorem abs_lt {n : Int} (h0 : 0 ≤ n) (h : n ≤ 900000000000) : n.natAbs < 10 ^ 12 := by omega
/-! the weight of steps the other way round -/
theorem Bw_perm (y : Ly) {a b : List Int} (h : a.Perm b) : Bw y a = Bw y b := by
  unfold Bw
  rw [show desc (a.map wd) = desc (b.map wd) from desc_of ((List.mergeSort_perm (a.map wd) _).trans (h.map wd)) (desc_sorted _)]
theorem Bw_rev (y : Ly) (a : List Int) : Bw y a.reverse = Bw y a := Bw_perm y (List.reverse_perm a)
def tWn (r : Int × Nat × Int) : List Int := [r.1, (r.2.1 : Int), r.2.2]
theorem tW_is (r : Int × Nat × Int) : tW r = .tup ((tWn r).map V.int) := rfl
theorem tWn_bd {y : Ly} (ok : y.Ok) {ss : List Int} (h : St ss) (hl : ss.length ≤ 2000) : ∀ n ∈ tWn (Bw y ss), n.natAbs < 10 ^ 12 := by
  obtain ⟨⟨a, b⟩, c, d, e⟩ := Bw_bd ok h hl
  intro n hn
  unfold tWn at hn
  simp only [List.mem_cons, List.not_mem_nil, or_false] at hn
  rcases hn with rfl | rfl | rfl
  · exact abs_lt a (by omega)
  · exact abs_lt (by omega) (by omega)
  · exact abs_lt d (by omega)
end Wq
set_option Elab.async false
set_option linter.all false
set_option maxRecDepth 100000
set_option maxHeartbeats 8000000
namespace Wq
open PySem PySem.Spec PyProof.Rows L2
open SX (S S_len S_cat S_beq_eq)
/-- Layout is made, and its methods -/
structure LyM (P : Program) (w : World) (K : PySem.W.Frag) (mg : Str → Option Value) (base : Heap) (C CE : Addr) : Prop where
  mke : ∃ f fd, Mk K C f ∧ FnOk P w K mg base CX0 5 f fd ["self", "text"] (spLI C) ∧ Binds K fd ["self", "text"] []
  bw : ∃ f fd, Meth K C "block_weight" f ∧ FnOk P w K mg base (L2.CX P w) 3 f fd ["self", "steps"] (spBW K C CE) ∧ Binds K fd ["self", "steps"] []
  cu : ∃ f fd, Meth K C "cuts" f ∧ FnOk P w K mg base CX0 5 f fd ["self", "steps"] (spCu K C) ∧ Binds K fd ["self", "steps"] []
  to : ∃ f fd, Meth K C "total" f ∧ FnOk P w K mg base CX0 6 f fd ["self", "steps"] (spTo K C) ∧ Binds K fd ["self", "steps"] []
theorem made_same {H G : Hp} {x dx : Addr} {o1 o2 : HO} (hx : H x = none) (hd : H dx = none) (s : SameP x (upd (upd H dx o1) x o2) G) : Same H G := fun b o e => by
  have n1 : b ≠ x := ne_of_none e hx
  have n2 : b ≠ dx := ne_of_none e hd
  exact s b o (by rw [upd_ne n1, upd_ne n2]; exact e) n1
theorem nI_map (cs : List Nat) : cs.map nI = (cs.map fun n : Nat => (n : Int)).map V.int := by
  rw [List.map_map]
  rfl
theorem cs_bd {B r : Nat} {cs : List Nat} (h : Cut B r cs) (hB : B ≤ 16) : ∀ n ∈ cs.map (fun n : Nat => (n : Int)), n.natAbs < 10 ^ 12 := by
  intro n hn
  obtain ⟨l, hl, rfl⟩ := List.mem_map.mp hn
  have := ((Cut_iff cs r).mp h).2 l hl
  exact abs_lt (by omega) (by omega)
theorem rep_flat (k : Int) (z : Int) : (List.replicate k.toNat [V.int z]).flatten = (List.replicate k.toNat z).map V.int := by
  induction k.toNat with
  | zero => rfl
  | succ n ih => rw [List.replicate_succ, List.replicate_succ, List.flatten_cons, ih]; rfl
theorem iD_ok {n : Int} (h : n.natAbs < 10 ^ 12) : (PyData.int n).showable = true ∧ (PyData.int n).depth ≤ 60 ∧ (PyData.int n).shown.length ≤ sizeLine := by
  have h1 := showAll_ints (ns := [n]) (fun m hm => by rw [List.mem_singleton.mp hm]; exact h)
  have h1 : ((PyData.int n).showable && true) = true := h1
  rw [Bool.and_true] at h1
  refine ⟨h1, Nat.zero_le _, ?_⟩
  show (Str.ofString (toString n)).length ≤ sizeLine
  rw [PySem.ofString_length]
  have := int_text_length_le10 (k := 12) (by decide) h
  rw [sizeLine_eq]
  omega
theorem lay_ints (ns : List Int) : PyData.canLayAll0 (ns.map .int) = true := by
  induction ns with
  | nil => rfl
  | cons n ns ih =>
    show ((PyData.int n).canLay0 && PyData.canLayAll0 (ns.map .int)) = true
    rw [ih]
    rfl
theorem shp_ints (ns : List Int) : SeqAt.shaped (.list (ns.map .int)) = true := by
  show (PyData.canLayAll0 (ns.map .int) && decide (PyData.depthAll (ns.map .int) + 1 ≤ 64)) = true
  rw [lay_ints, depAll_ints]
  rfl
theorem shp_step (n : Int) : SeqAt.shaped (.tuple [.str "steps", .int n]) = true := by
  show (((PyData.str "steps").canLay0 && ((PyData.int n).canLay0 && true)) && decide (PyData.depthAll [.str "steps", .int n] + 1 ≤ 64)) = true
  have h1 : (PyData.str "steps").canLay0 = true := by decide +kernel
  have h2 : PyData.depthAll [.str "steps", .int n] = 0 := rfl
  rw [h1, h2]
  rfl
abbrev sIR : Stmt := top 36
abbrev NIR : List Str := ["_law_parts_here", "_law_steps_here", "_law_layout", "_law_widths", "_law_given", "_law_many", "_law_due", "_law_cuts_here", "_law_total", "_law_at", "_law_long", "_law_step"]
theorem scIR : FnScope NIR ["_law_parts_here", "_law_steps_here"] (defScope sIR) := ⟨rfl, rfl, rfl, by decide +kernel, rfl, by decide +kernel, by decide +kernel⟩
def spIR (K : PySem.W.Frag) : Sp := fun vs H Q _ => ∃ (q l : Addr) (y : Ly) (hd : Int) (ss : List Int), vs = [.ref q, .ref l] ∧ SqL K H q (paV y hd) ∧ PaX y hd ∧ H l = some (.lst (ss.map V.int)) ∧ St ss ∧ ss.length ≤ 30 ∧
  ∀ G, Same H G → Q (.bl true) G
section
variable {P : Program} {w : World} {K : PySem.W.Frag} {mg : Str → Option Value} {base : Heap} {C CE : Addr}
theorem ok_IR {fa : Addr} {fd : FuncData} (F : Fun K "_law_is_right" "_law_is_right" sIR fa fd) (T : Txt K mg) (TX : TxtL K mg C) (M : LyM P w K mg base C CE) (CPT : Cl P w K mg base 1 "_law_parts_text" (spPT K)) (CLw : Cl P w K mg base 1 "_law_width" spLw) (CW : Cl P w K mg base 2 "_law_weight" (spLW K))
    (CLC : Cl P w K mg base 3 "_law_cuts" (spLC K)) (CLe : Cl P w K mg base 3 "_law_least_cuts" (spLe K)) (CRd : Cl P w K mg base 4 "_law_refused" (spRd K C)) : FnG P w K mg base CX0 7 fa fd ["_law_parts_here", "_law_steps_here"] (spIR K) := by
  obtain ⟨oc, od, kV, doc, pm, an, cdv, ct, osl, rfl, lk, hcd⟩ := F.ex
  obtain ⟨f0, fd0, M0, G0, b0⟩ := M.mke
  obtain ⟨fB, fdB, MB, GB, bB⟩ := M.bw
  obtain ⟨fC, fdC, MC, GC, bC⟩ := M.cu
  obtain ⟨fT, fdT, MT, GT, bT⟩ := M.to
  refine fnG_of (k := 6) lk hcd scIR (fun vs H Q E h => ?_) (fun A1 hg outer s H vs Q E hr h => ?_)
  · obtain ⟨q, l, y, hd, ss, rfl, _⟩ := h
    rfl
  · obtain ⟨q, l, y, hd, ss, rfl, hq, hp, hl, hst, hn, k⟩ := h
    have hG : (A1.deeper (envOfC "_law_is_right" (defScope sIR) s.heap.objs.size fa cdv)).guards = some [] := hg
    have r3 : Room 3 _ := hr.mono (by decide)
    have r5 : Room 5 _ := hr.mono (by decide)
    refine ⟨_, PSs.nox (C8.pss_cut (ps_par3 (i := 2) (j := 3) (l := 4) (by rfl) scIR.nd rfl rfl rfl (by decide) (by decide) (by decide) rfl rfl rfl (pa_cons (pe_make M0 G0 hr rfl (by exact TX.gC) b0 .nil pass0 (pa_cons (pe_cl CPT hr (by decide) rfl (pa_cons (pv 0) pa_nil)) pa_nil)) (pa_cons (pe_lc (own := [("_law_step", 11)]) (g := gName 11) (tt := tYes) (te := tCall spLw [] E0 (tCons (tVar 11) tNil)) (by rfl) scIR.nd (pi_list (pv 1)) (blkOk_by (own := [("_law_step", 11)]) (N := NIR) (sc := defScope sIR) (by decide +kernel)) (fun _ _ _ _ _ => (pg_name (i := 11) scIR.nd rfl (Or.inl rfl))) (fun _ _ _ _ _ => pts_nil) (fun _ _ _ _ _ => (pe_cl CLw hr (by decide) rfl (pa_cons (pv 11) pa_nil)))) (pa_cons (pe_callTy call_list_of (by rfl) (by exact T.list) (by decide +kernel) (pa_cons (pv 1) pa_nil)) pa_nil))) (by rfl))
(C8.pss_cut (ps_for PassesOwn.never rfl (pi_range2 rfl (by exact T.range) (pa_cons pe_int (pa_cons (pe_op op_add (pe_callB (call_min2 rfl) (by rfl) (by exact T.min) (by decide +kernel) (pa_cons (pe_ix ix_list (pv 0) pe_int (fun _ _ => rfl)) (pa_cons (pe_callB call_len_seq (by rfl) (by exact T.len) PySem.boot_len (pa_cons (pv 1) pa_nil)) pa_nil))) pe_int) pa_nil))) (pg_name (i := 5) scIR.nd rfl (Or.inl rfl))
(pss_cons (ps_set (i := 6) scIR.nd rfl (Or.inl rfl) (pe_callB (call_repr hG (hu64 hr)) (by rfl) (by exact TX.repr) PyProof.Rows.boot_repr (pa_cons (pe_cl CW hr (by decide) rfl (pa_cons (pv 0) (pa_cons (pe_slice sl_list (pv 3) po_none (po_some (pv 5))) pa_nil))) pa_nil)))
(pss_one (ps_if (PW.pt (pw_or (pt_cmpR op_ne (pe_callB (call_repr hG (hu64 hr)) (by rfl) (by exact TX.repr) PyProof.Rows.boot_repr (pa_cons (pe_meth (pv 2) TX.cl MB GB r3 bB .nil passF (pa_cons (pe_slice sl_list (pv 4) po_none (po_some (pv 5))) pa_nil)) pa_nil)) (pv 6) (nomark _)) (pw_or1 (pt_cmpR op_ne (pe_callB (call_repr hG (hu64 hr)) (by rfl) (by exact TX.repr) PyProof.Rows.boot_repr (pa_cons (pe_meth (pv 2) TX.cl MB GB r3 bB .nil passF (pa_cons (pe_revL (pe_slice sl_list (pv 4) po_none (po_some (pv 5)))) pa_nil)) pa_nil)) (pv 6) (nomark _)))))
(pss_one (ps_ret pe_bl))
pss_nil))))
(C8.pss_cut (ps_set (i := 7) scIR.nd rfl (Or.inl rfl) (pe_cl CLC hr (by decide) rfl (pa_cons (pv 0) (pa_cons (pv 3) pa_nil))))
(C8.pss_cut (ps_if (PW.pt (pw_and (pt_val (pe_ix ix_list (pv 0) pe_int (fun _ _ => rfl))) (pw_and1 (pt_cmpR op_le (pe_callB call_len_seq (by rfl) (by exact T.len) PySem.boot_len (pa_cons (pv 1) pa_nil)) pe_int (nomark _)))))
(pss_one (ps_set (i := 7) scIR.nd rfl (Or.inl rfl) (pe_cl CLe hr (by decide) rfl (pa_cons (pv 0) (pa_cons (pv 3) pa_nil)))))
pss_nil)
(pss_cons (ps_asg (pe_tup (pa_cons pe_int (pa_cons pe_int pa_nil))) (pg_tup (by rfl) (pgs_cons (pg_name (i := 8) scIR.nd rfl (Or.inl rfl)) (pgs_cons (pg_name (i := 9) scIR.nd rfl (Or.inl rfl)) pgs_nil))))
(C8.pss_cut (ps_for PassesOwn.never rfl (pi_tup (pv 7)) (pg_name (i := 10) scIR.nd rfl (Or.inl rfl))
(pss_cons (ps_set (i := 8) scIR.nd rfl (Or.inl rfl) (pe_op op_add (pv 8) (pe_ix ix_tup (pe_cl CW hr (by decide) rfl (pa_cons (pv 0) (pa_cons (pe_slice sl_list (pv 3) (po_some (pv 9)) (po_some (pe_op op_add (pv 9) (pv 10)))) pa_nil))) pe_int (fun _ _ => rfl))))
(pss_one (ps_set (i := 9) scIR.nd rfl (Or.inl rfl) (pe_op op_add (pv 9) (pv 10))))))
(C8.pss_cut (ps_if (PW.pt (pw_or (pt_cmpR op_ne (pe_callB (call_repr hG (hu64 hr)) (by rfl) (by exact TX.repr) PyProof.Rows.boot_repr (pa_cons (pe_meth (pv 2) TX.cl MC GC r5 bC .nil pass0 (pa_cons (pv 4) pa_nil)) pa_nil)) (pe_callB (call_repr hG (hu64 hr)) (by rfl) (by exact TX.repr) PyProof.Rows.boot_repr (pa_cons (pv 7) pa_nil)) (nomark _)) (pw_or (pt_cmpR op_ne (pe_callB (call_repr hG (hu64 hr)) (by rfl) (by exact TX.repr) PyProof.Rows.boot_repr (pa_cons (pe_meth (pv 2) TX.cl MT GT hr bT .nil pass0 (pa_cons (pv 4) pa_nil)) pa_nil)) (pe_callB (call_repr hG (hu64 hr)) (by rfl) (by exact TX.repr) PyProof.Rows.boot_repr (pa_cons (pv 8) pa_nil)) (nomark _)) (pw_or1 (pt_cmpR (op_neD (hu64 hr)) (pv 4) (pv 1) (nomark _))))))
(pss_one (ps_ret pe_bl))
pss_nil)
(C8.pss_cut (ps_if (pt_cmpR (op_neD (hu64 hr)) (pe_cl CRd hr (by decide) rfl (pa_cons (pv 2) (pa_cons (pe_lst pa_nil) pa_nil))) (pe_tup (pa_cons pe_str (pa_cons pe_int pa_nil))) (nomark _))
(pss_one (ps_ret pe_bl))
pss_nil)
(pss_one (ps_ret (pe_cmpR (op_eqD (hu64 hr)) (pe_cl CRd hr (by decide) rfl (pa_cons (pv 2) (pa_cons (pe_op op_rep (pe_lst (pa_cons pe_int pa_nil)) (pe_op op_add (pe_ix ix_list (pv 0) pe_int (fun _ _ => rfl)) pe_int)) pa_nil))) (pe_tup (pa_cons pe_str (pa_cons (pe_op op_add (pe_ix ix_list (pv 0) pe_int (fun _ _ => rfl)) pe_int) pa_nil))) (nomark _)))))))))))), ?_⟩
    have ok := hp.ok
    have hho := hp.ho
    have hL : (ss.map V.int).length = ss.length := List.length_map ..
    have hWl : (ss.map wd).length = ss.length := List.length_map ..
    have hWd := wd_Wd hst
    -- the layout, the widths, what is given
    refine ⟨fun σ G => ∃ a wl gl : Addr, σ = [some (.ref q), some (.ref l), some (.ref a), some (.ref wl), some (.ref gl), none, none, none, none, none, none, none] ∧ LyAt C G a y ∧ Same H G ∧ G wl = some (.lst ((ss.map wd).map V.int)) ∧ G gl = some (.lst (ss.map V.int)), ?_, ?_⟩
    · refine ⟨_, rfl, q, y, hd, rfl, hq, hp, fun H1 s1 => fun x dx hx hdx hne => ⟨x, dx, y, hd, rfl, hp, upd_same, fun G sp hGx => ⟨rfl, ?_⟩⟩⟩
      have s2 := s1.trans (made_same hx hdx sp)
      refine ⟨_, rfl, l, rfl, ⟨_, .inl (.inl (s2 _ _ hl))⟩, fun D hD => ?_⟩
      refine lc_list (K := K) (a := l) (xs := ss.map V.int) (fun i G' => Same G G' ∧ G' D = some (.lst (((ss.take i).map wd).map V.int))) ⟨sNew hD, upd_same⟩ (fun i G' _ ⟨sm, _⟩ => .inl (.inl (sm _ _ (s2 _ _ hl)))) ?_ ?_
      · rintro i z0 G' hi ⟨sm, hD2⟩
        obtain ⟨z, hz, rfl⟩ := ints_atZ hi
        have hil := (List.getElem?_eq_some_iff.mp hz).1
        refine ⟨rfl, ?_⟩
        simp only [tYes, if_true]
        refine ⟨_, rfl, z, rfl, _, hD2, by rw [List.length_map, List.length_map, List.length_take, sizeLine_eq]; omega, sPut sm hD, ?_⟩
        rw [upd_same, List.take_succ, hz, List.map_append, List.map_append]
        rfl
      · rintro G' ⟨sm, hD2⟩
        rw [hL, List.take_length] at hD2
        refine ⟨_, rfl, l, _, rfl, .inl (.inl (.inl (sm _ _ (s2 _ _ hl)))), fun g hg => ?_⟩
        have sg := sNew (o := .lst (ss.map V.int)) hg
        exact ⟨_, _, _, rfl, x, D, g, rfl, ⟨dx, _, sg _ _ (sm _ _ hGx)⟩, s2.trans (sm.trans sg), sg _ _ hD2, upd_same⟩
    rintro σ G1 ⟨a, wl, gl, rfl, hy, s1, hwl, hgl⟩
    have hq1 := SqL_same hq s1
    have hl1 := s1 _ _ hl
    -- each beginning as one block
    refine ⟨fun σ G => ∃ x5 x6 : Option V, σ = [some (.ref q), some (.ref l), some (.ref a), some (.ref wl), some (.ref gl), x5, x6, none, none, none, none, none] ∧ Same G1 G, ?_, ?_⟩
    · have hmin : (if (ss.length : Int) < (y.B : Int) then (ss.length : Int) else (y.B : Int)) + 1 = ((min y.B ss.length : Nat) : Int) + 1 := by
        split <;> omega
      refine ⟨_, rfl, q, _, 1, _, rfl, rfl, hq1, by rfl, _, rfl, l, _, rfl, .inl (.inl (.inl hl1)), _, _, rfl, _, _, rfl, rfl, 1, ((min y.B ss.length : Nat) : Int) + 1, ?_, by omega, ?_⟩
      · rw [hL]
        exact congrArg (fun z => [V.int 1, V.int z]) hmin
      refine for_range (lo := 1) (n := (((min y.B ss.length : Nat) : Int) + 1 - 1).toNat) (fun i σ G => ∃ x5 x6 : Option V, σ = [some (.ref q), some (.ref l), some (.ref a), some (.ref wl), some (.ref gl), x5, x6, none, none, none, none, none] ∧ Same G1 G) ⟨_, _, rfl, .refl _⟩ ?_ ?_
      · rintro i σ G hi ⟨x5, x6, rfl, sm⟩
        have hi : i + 1 ≤ y.B ∧ i + 1 ≤ ss.length := by omega
        have hto : ∀ zs : List V, cutV zs none (some (1 + (i : Int))) = zs.take (i + 1) := fun zs => by
          rw [show 1 + (i : Int) = ((i + 1 : Nat) : Int) by omega]
          exact cut_to
        have hst2 : St (ss.take (i + 1)) := fun s hs => hst s (List.mem_of_mem_take hs)
        have hl2 : (ss.take (i + 1)).length = i + 1 := by rw [List.length_take]; omega
        have tS := tD_ok (tWn_bd (y := y) ok hst2 (by omega)) (by show 3 ≤ 5000; decide)
        refine ⟨_, rfl, _, rfl, _, rfl, _, rfl, wl, _, rfl, .inl (.inl (sm _ _ hwl)), fun p hp1 => ?_⟩
        rw [hto, ← List.map_take, ← List.map_take]
        have sp := sNew (o := .lst (((ss.take (i + 1)).map wd).map V.int)) hp1
        refine ⟨q, p, y, hd, (ss.take (i + 1)).map wd, rfl, SqL_same hq1 (sm.trans sp), hho, ok, .inl (.inl upd_same), wd_Wd hst2, by rw [List.length_map, hl2]; omega, by rw [List.length_map, hl2]; omega, fun r G2 s2 hr2 => ?_⟩
        have hr2 : G2 r = some (.tup ((tWn (Bw y (ss.take (i + 1)))).map V.int)) := hr2
        refine ⟨_, tD (tWn (Bw y (ss.take (i + 1)))), rfl, sh_tup (.inl (.inl hr2)), tS.1, tS.2.1, tS.2.2, ?_⟩
        have sA := sm.trans (sp.trans s2)
        obtain ⟨dx, tx, hyo⟩ := hy.same sA
        refine ⟨_, rfl, a, dx, _, rfl, hyo, by rfl, _, rfl, _, rfl, _, rfl, gl, _, rfl, .inl (.inl (sA _ _ hgl)), fun p3 hp3 => ?_⟩
        rw [hto, ← List.map_take]
        have s3 := sNew (o := .lst ((ss.take (i + 1)).map V.int)) hp3
        refine ⟨a, p3, y, ss.take (i + 1), rfl, hy.same (sA.trans s3), ok, .inl (.inl (.inl upd_same)), hst2, by omega, fun _ _ r4 G4 s4 hr4 => ?_, fun hno => absurd ⟨by omega, by omega⟩ hno⟩
        have hr4 : G4 r4 = some (.tup ((tWn (Bw y (ss.take (i + 1)))).map V.int)) := hr4
        refine ⟨_, tD (tWn (Bw y (ss.take (i + 1)))), rfl, sh_tup (.inl (.inl hr4)), tS.1, tS.2.1, tS.2.2, ?_⟩
        refine ⟨_, rfl, rfl, _, rfl, ?_⟩
        refine (if_neg (by simp)).mpr ?_
        have sB := sA.trans (s3.trans s4)
        obtain ⟨dx, tx, hyo⟩ := hy.same sB
        refine ⟨_, rfl, a, dx, _, rfl, hyo, by rfl, _, rfl, _, rfl, _, rfl, gl, _, rfl, .inl (.inl (sB _ _ hgl)), fun p5 hp5 => ?_⟩
        rw [hto, ← List.map_take]
        have s5 := sNew (o := .lst ((ss.take (i + 1)).map V.int)) hp5
        refine ⟨p5, _, rfl, .inl (.inl upd_same), fun p6 hp6 => ?_⟩
        rw [← List.map_reverse]
        have s6 := sNew (o := .lst ((ss.take (i + 1)).reverse.map V.int)) hp6
        have hst3 : St (ss.take (i + 1)).reverse := fun s hs => hst2 s (List.mem_reverse.mp hs)
        have hl3 : (ss.take (i + 1)).reverse.length = i + 1 := by rw [List.length_reverse]; exact hl2
        refine ⟨a, p6, y, (ss.take (i + 1)).reverse, rfl, hy.same (sB.trans (s5.trans s6)), ok, .inl (.inl (.inl upd_same)), hst3, by omega, fun _ _ r7 G7 s7 hr7 => ?_, fun hno => absurd ⟨by omega, by omega⟩ hno⟩
        rw [Bw_rev] at hr7
        have hr7 : G7 r7 = some (.tup ((tWn (Bw y (ss.take (i + 1)))).map V.int)) := hr7
        refine ⟨_, tD (tWn (Bw y (ss.take (i + 1)))), rfl, sh_tup (.inl (.inl hr7)), tS.1, tS.2.1, tS.2.2, ?_⟩
        refine ⟨_, rfl, rfl, _, rfl, ?_⟩
        refine (if_neg (by simp)).mpr ?_
        exact ⟨_, _, rfl, sB.trans (s5.trans (s6.trans s7))⟩
      · rintro σ G ⟨x5, x6, rfl, sm⟩
        exact ⟨_, _, rfl, sm⟩
    rintro σ G2 ⟨x5, x6, rfl, s2⟩
    have hq2 := SqL_same hq1 s2
    have hl2 := s2 _ _ hl1
    have hwl2 := s2 _ _ hwl
    have hgl2 := s2 _ _ hgl
    have hy2 := hy.same s2
    have hcs := Cs_cut ok ss
    -- the cuts
    refine ⟨fun σ G => ∃ t : Addr, σ = [some (.ref q), some (.ref l), some (.ref a), some (.ref wl), some (.ref gl), x5, x6, some (.ref t), none, none, none, none] ∧ Same G2 G ∧ G t = some (.tup ((Cs y ss).map nI)), ?_, ?_⟩
    · refine ⟨_, rfl, _, rfl, q, wl, y, hd, ss.map wd, rfl, hq2, hho, ok, .inl (.inl hwl2), hWd, by omega, fun p G s3 hp3 => ?_⟩
      rw [CsL_map] at hp3
      exact ⟨p, rfl, s3, hp3⟩
    rintro σ G3 ⟨t, rfl, s3, ht⟩
    refine ⟨fun σ G => ∃ t : Addr, σ = [some (.ref q), some (.ref l), some (.ref a), some (.ref wl), some (.ref gl), x5, x6, some (.ref t), none, none, none, none] ∧ Same G2 G ∧ G t = some (.tup ((Cs y ss).map nI)), ?_, ?_⟩
    · refine ⟨_, rfl, q, _, 0, .bl y.fr, rfl, rfl, SqL_same hq2 s3, rfl, y.fr, rfl, ?_⟩
      refine ite2 (fun hf => ?_) (fun _ => ⟨t, rfl, s3, ht⟩)
      refine ⟨_, rfl, l, _, rfl, .inl (.inl (.inl (s3 _ _ hl2))), _, _, rfl, rfl, _, rfl, ?_⟩
      refine ite2 (fun h8 => ?_) (fun _ => ⟨t, rfl, s3, ht⟩)
      have h8 := of_decide_eq_true h8
      rw [hL] at h8
      refine ⟨_, rfl, _, rfl, q, wl, y, hd, ss.map wd, rfl, SqL_same hq2 s3, hho, ok, .inl (.inl (s3 _ _ hwl2)), hWd, by omega, fun p G s4 hp4 => ⟨p, rfl, s3.trans s4, ?_⟩⟩
      have e := CsL_map y ss
      unfold CsL at e
      rw [if_pos hf] at e
      rw [e] at hp4
      exact hp4
    clear ht s3 t
    rintro σ G4 ⟨t, rfl, s4, ht⟩
    -- the sum
    have hgb := gW_bd ok hst (show ss.length ≤ 2000 by omega)
    refine ⟨by show 2 ≤ sizeLine; decide, fun p2 hp2 => ⟨p2, _, rfl, .inl (.inl upd_same), rfl, _, _, rfl, _, _, rfl, rfl, ?_⟩⟩
    have s5 := sNew (o := .tup [.int 0, .int 0]) hp2
    refine ⟨fun σ G => ∃ x9 x10 : Option V, σ = [some (.ref q), some (.ref l), some (.ref a), some (.ref wl), some (.ref gl), x5, x6, some (.ref t), some (.int (Wc (gW y ss) ss.length ss.length (Cs y ss))), x9, x10, none] ∧ Same G4 G, ?_, ?_⟩
    · generalize hC : Cs y ss = cs at *
      refine ⟨_, rfl, t, rfl, ⟨_, .inl (.inl (s5 _ _ ht))⟩, for_tup (K := K) (a := t) (xs := cs.map nI) (fun j σ G' => ∃ (b : Nat) (W : Int) (x10 : Option V), σ = [some (.ref q), some (.ref l), some (.ref a), some (.ref wl), some (.ref gl), x5, x6, some (.ref t), some (.int W), some (nI b), x10, none] ∧ Same G4 G' ∧ b ≤ ss.length ∧ Cut y.B (ss.length - b) (cs.drop j) ∧ W + Wc (gW y ss) ss.length (ss.length - b) (cs.drop j) = Wc (gW y ss) ss.length ss.length cs)
        ⟨0, 0, _, rfl, s5, Nat.zero_le _, by rw [Nat.sub_zero]; exact hcs, by rw [Nat.sub_zero, Int.zero_add]; rfl⟩ (fun j σ G' _ ⟨_, _, _, _, sj, _⟩ => .inl (.inl (sj _ _ ht))) ?_ ?_⟩
      · rintro j z σ G' hj ⟨b, W, x10, rfl, sj, hb, hcc, hw'⟩
        rw [List.getElem?_map] at hj
        cases ej : cs[j]? with
        | none => rw [ej] at hj; cases hj
        | some l0 =>
        rw [ej] at hj
        have hz : nI l0 = z := Option.some.inj hj
        subst hz
        rw [drop_cons ej] at hcc hw'
        obtain ⟨c1, c2, c3, c4⟩ := hcc
        have sA := s4.trans sj
        have hcv : cutV ((ss.map wd).map V.int) (some (b : Int)) (some ((b : Int) + (l0 : Int))) = (((ss.map wd).drop b).take l0).map V.int := by
          rw [show (b : Int) + (l0 : Int) = ((b + l0 : Nat) : Int) by omega, cut_mid (by omega) (by rw [List.length_map, hWl]; omega), ← List.map_drop, ← List.map_take, show b + l0 - b = l0 by omega]
        have hpl : (((ss.map wd).drop b).take l0).length = l0 := by
          rw [List.length_take, List.length_drop, hWl]
          omega
        refine ⟨_, rfl, _, rfl, _, rfl, _, rfl, _, rfl, _, rfl, _, rfl, _, _, rfl, rfl, _, rfl, wl, _, rfl, .inl (.inl (sA _ _ hwl2)), fun pz hz => ?_⟩
        rw [hcv]
        have sz := sNew (o := .lst ((((ss.map wd).drop b).take l0).map V.int)) hz
        refine ⟨q, pz, y, hd, ((ss.map wd).drop b).take l0, rfl, SqL_same hq2 (sA.trans sz), hho, ok, .inl (.inl upd_same), fun w hw2 => hWd w (List.mem_of_mem_drop (List.mem_of_mem_take hw2)), by omega, by omega, fun r G5 s6 hr5 => ?_⟩
        have hgw : (Wt y (desc (((ss.map wd).drop b).take l0))).1 = gW y ss b l0 := congrFun (congrFun (gL_map y ss) b) l0
        refine ⟨r, _, 0, _, rfl, rfl, .inl (.inl hr5), by rfl, _, _, rfl, rfl, _, rfl, _, rfl, _, _, rfl, rfl, ?_⟩
        refine ⟨b + l0, W + gW y ss b l0, some (nI l0), ?_, sj.trans (sz.trans s6), by omega, by rw [show ss.length - (b + l0) = ss.length - b - l0 by omega]; exact c4, ?_⟩
        · have e : (b : Int) + (l0 : Int) = ((b + l0 : Nat) : Int) := by omega
          have e2 : W + (Wt y (desc (((ss.map wd).drop b).take l0))).1 = W + gW y ss b l0 := by rw [hgw]
          have e3 : ∀ u v : Int, u = W + gW y ss b l0 → v = ((b + l0 : Nat) : Int) → [some (V.ref q), some (.ref l), some (.ref a), some (.ref wl), some (.ref gl), x5, x6, some (.ref t), some (.int u), some (.int v), some (nI l0), none] = [some (V.ref q), some (.ref l), some (.ref a), some (.ref wl), some (.ref gl), x5, x6, some (.ref t), some (.int (W + gW y ss b l0)), some (nI (b + l0)), some (nI l0), none] := by
            rintro u v rfl rfl
            rfl
          exact e3 _ _ e2 e
        · rw [← hw']
          show _ = W + (gW y ss (ss.length - (ss.length - b)) l0 + Wc (gW y ss) ss.length (ss.length - b - l0) (cs.drop (j + 1)))
          rw [show ss.length - (ss.length - b) = b by omega, show ss.length - (b + l0) = ss.length - b - l0 by omega]
          omega
      · rintro σ G' ⟨b, W, x10, rfl, sj, hb, hcc, hw'⟩
        rw [List.length_map, List.drop_length] at hw'
        have e : W = Wc (gW y ss) ss.length ss.length cs := by
          rw [← hw']
          show W = W + 0
          omega
        subst e
        exact ⟨_, _, rfl, sj⟩
    rintro σ G5 ⟨x9, x10, rfl, s6⟩
    have sB := s4.trans s6
    have hq5 := SqL_same hq2 sB
    have hl5 := sB _ _ hl2
    have hgl5 := sB _ _ hgl2
    have hy5 := hy2.same sB
    have ht5 := s6 _ _ ht
    have hWb := Wc_bd hgb ss.length (Cs y ss) ss.length
    have hCl := Cut_len hcs
    have hWt : (Wc (gW y ss) ss.length ss.length (Cs y ss)).natAbs < 10 ^ 12 := abs_lt hWb.1 (by omega)
    have hcb := cs_bd hcs ok.b16
    generalize hWW : Wc (gW y ss) ss.length ss.length (Cs y ss) = WW at *
    refine ⟨fun σ G => σ = [some (.ref q), some (.ref l), some (.ref a), some (.ref wl), some (.ref gl), x5, x6, some (.ref t), some (.int WW), x9, x10, none] ∧ Same G5 G, ?_, ?_⟩
    · obtain ⟨dx, tx, hyo⟩ := id hy5
      have tC := tD_ok (ns := (Cs y ss).map fun n : Nat => (n : Int)) hcb (by rw [List.length_map]; omega)
      have tI := iD_ok hWt
      refine ⟨_, rfl, a, dx, _, rfl, hyo, by rfl, _, rfl, a, gl, y, ss, rfl, hy5, ok, .inl (.inl (.inl hgl5)), hst, by omega, fun p G s1 hp1 => ?_⟩
      rw [nI_map] at hp1 ht5
      refine ⟨_, tD ((Cs y ss).map fun n : Nat => (n : Int)), rfl, sh_tup (.inl (.inl hp1)), tC.1, tC.2.1, tC.2.2, _, rfl, _, tD ((Cs y ss).map fun n : Nat => (n : Int)), rfl, sh_tup (.inl (.inl (s1 _ _ ht5))), tC.1, tC.2.1, tC.2.2, rfl, _, rfl, ?_⟩
      refine (if_neg (by simp)).mpr ?_
      obtain ⟨dx, tx, hyo⟩ := hy5.same s1
      refine ⟨_, rfl, a, dx, _, rfl, hyo, by rfl, _, rfl, a, gl, y, ss, rfl, hy5.same s1, ok, .inl (.inl (.inl (s1 _ _ hgl5))), hst, by omega, fun G' s2 => ?_⟩
      rw [hWW]
      refine ⟨_, .int WW, rfl, .int WW, tI.1, tI.2.1, tI.2.2, _, rfl, _, .int WW, rfl, .int WW, tI.1, tI.2.1, tI.2.2, rfl, _, rfl, ?_⟩
      refine (if_neg (by simp)).mpr ?_
      have s12 := s1.trans s2
      refine ⟨_, rfl, _, rfl, .list (ss.map .int), .list (ss.map .int), .lst (.inl (.inl (s12 _ _ hgl5))) (dp_ints ss), .lst (.inl (.inl (s12 _ _ hl5))) (dp_ints ss), shp_ints ss, shp_ints ss, _, rfl, ?_⟩
      rw [eqv_list]
      refine (if_neg (by decide)).mpr ?_
      exact ⟨rfl, s12⟩
    rintro σ G6 ⟨rfl, s7⟩
    have hy6 := hy5.same s7
    have hq6 := SqL_same hq5 s7
    -- steps that are no block
    refine ⟨fun σ G => σ = [some (.ref q), some (.ref l), some (.ref a), some (.ref wl), some (.ref gl), x5, x6, some (.ref t), some (.int WW), x9, x10, none] ∧ Same G6 G, ?_, ?_⟩
    · refine ⟨_, rfl, by show 0 ≤ sizeLine; decide, fun e he => ?_⟩
      have se := sNew (o := .lst []) he
      refine ⟨a, e, y, [], rfl, hy6.same se, ok, .inl (.inl (.inl upd_same)), (fun s h => nomatch h), by decide, fun z => absurd z.1 (by decide), fun r G sr hr' => ?_⟩
      refine ⟨by show 2 ≤ sizeLine; decide, fun u hu => ?_⟩
      have su := sNew (o := .tup [.str "steps", .int 0]) hu
      refine ⟨.tuple [.str "steps", .int 0], .tuple [.str "steps", .int 0], .tup (.inl (.inl (su _ _ hr'))) (.cons (.str _) (.cons (.int 0) .nil)), .tup (.inl (.inl upd_same)) (.cons (.str _) (.cons (.int 0) .nil)), shp_step 0, shp_step 0, _, rfl, ?_⟩
      rw [eqv_step]
      refine (if_neg (by decide)).mpr ?_
      exact ⟨rfl, se.trans (sr.trans su)⟩
    rintro σ G7 ⟨rfl, s8⟩
    have hy7 := hy6.same s8
    have hq7 := SqL_same hq6 s8
    have b16 := ok.b16
    refine ⟨_, rfl, by show 1 ≤ sizeLine; decide, fun e he => ?_⟩
    have se := sNew (o := .lst [.int 0]) he
    refine ⟨_, rfl, q, _, 1, _, rfl, rfl, SqL_same hq7 se, by rfl, _, _, rfl, rfl, e, (y.B : Int) + 1, [.int 0], rfl, rfl, upd_same, by omega, by omega, ?_, fun p hp9 => ?_⟩
    · show 1 * ((y.B : Int) + 1).toNat ≤ sizeLine
      rw [sizeLine_eq]
      omega
    have hkn : ((y.B : Int) + 1).toNat = y.B + 1 := by omega
    rw [rep_flat, hkn]
    have sp := sNew (o := .lst ((List.replicate (y.B + 1) 0).map V.int)) hp9
    have hrl : (List.replicate (y.B + 1) (0 : Int)).length = y.B + 1 := List.length_replicate ..
    refine ⟨a, p, y, List.replicate (y.B + 1) 0, rfl, hy7.same (se.trans sp), ok, .inl (.inl (.inl upd_same)), fun s hs => ?_, by omega, by omega, fun r G sr hr' => ?_⟩
    · rw [List.eq_of_mem_replicate hs]
      decide
    rw [hrl] at hr'
    have sD := se.trans (sp.trans sr)
    refine ⟨_, rfl, q, _, 1, _, rfl, rfl, SqL_same hq7 sD, by rfl, _, _, rfl, rfl, by show 2 ≤ sizeLine; decide, fun u hu => ?_⟩
    have su := sNew (o := .tup [.str "steps", .int ((y.B : Int) + 1)]) hu
    have hB1 : nI (y.B + 1) = V.int ((y.B : Int) + 1) := congrArg V.int (by omega)
    rw [hB1] at hr'
    refine ⟨.tuple [.str "steps", .int ((y.B : Int) + 1)], .tuple [.str "steps", .int ((y.B : Int) + 1)], .tup (.inl (.inl (su _ _ hr'))) (.cons (.str _) (.cons (.int _) .nil)), .tup (.inl (.inl upd_same)) (.cons (.str _) (.cons (.int _) .nil)), shp_step _, shp_step _, ?_⟩
    rw [eqv_step]
    exact k _ (s1.trans (s2.trans (sB.trans (s7.trans (s8.trans (sD.trans su))))))
end
end Wq
set_option Elab.async false
set_option linter.all false
set_option maxRecDepth 100000
set_option maxHeartbeats 4000000
namespace Wq
open PySem PySem.Spec PyProof.Rows L2
/-! steps 0: the fewest blocks, long ones first -/
theorem Pc_zero (B : Nat) : Pc B 0 = [] := by
  unfold Pc
  rw [Nat.zero_div, Nat.mul_zero, if_neg (Nat.lt_irrefl 0)]
  rfl
theorem Pc_step {B n : Nat} (hB : 1 ≤ B) (h : B ≤ n) : Pc B n = B :: Pc B (n - B) := by
  unfold Pc
  have e : n / B = (n - B) / B + 1 := by
    rw [Nat.div_eq, if_pos ⟨hB, h⟩]
  have e2 : B * (n / B) = B * ((n - B) / B) + B := by rw [e, Nat.mul_succ]
  rw [e, List.replicate_succ, List.cons_append]
  congr 2
  rw [← e, e2]
  by_cases z : B * ((n - B) / B) < n - B
  · rw [if_pos z, if_pos (by omega)]
    congr 1
    omega
  · rw [if_neg z, if_neg (by omega)]
theorem Pc_small {B n : Nat} (h0 : 0 < n) (h : n < B) : Pc B n = [n] := by
  unfold Pc
  rw [Nat.div_eq_of_lt h, Nat.mul_zero, if_pos h0]
  rfl
theorem Pc_lex {B : Nat} (hB : 1 ≤ B) : ∀ r p, Cut B r p → HT.lexLt (ngs p) (ngs (Pc B r)) = false := by
  intro r
  induction r using Nat.strongRecOn with
  | _ r ih =>
    intro p hp
    cases p with
    | nil =>
      have hp : r = 0 := hp
      rw [hp, Pc_zero]
      rfl
    | cons l p' =>
      obtain ⟨h1, h2, h3, h4⟩ := hp
      by_cases hr : B ≤ r
      · rw [Pc_step hB hr]
        show HT.lexLt (-(l : Int) :: ngs p') (-(B : Int) :: ngs (Pc B (r - B))) = false
        rw [HT.lexLt_cons]
        by_cases e : l = B
        · subst e
          rw [if_pos rfl]
          exact ih _ (by omega) p' h4
        · rw [if_neg (by omega)]
          exact decide_eq_false (by omega)
      · rw [Pc_small (by omega) (by omega)]
        show HT.lexLt (-(l : Int) :: ngs p') (-(r : Int) :: []) = false
        rw [HT.lexLt_cons]
        by_cases e : l = r
        · subst e
          rw [if_pos rfl]
          have := Cut_len h4
          have h0 : p' = [] := List.length_eq_zero_iff.mp (by omega)
          rw [h0]
          rfl
        · rw [if_neg (by omega)]
          exact decide_eq_false (by omega)
theorem sum_le {B : Nat} : ∀ p : List Nat, (∀ l ∈ p, 1 ≤ l ∧ l ≤ B) → p.sum ≤ B * p.length
  | [], _ => Nat.zero_le _
  | l :: p, h => by
    have h1 := (h l List.mem_cons_self).2
    have h2 := sum_le p fun z hz => h z (List.mem_cons_of_mem _ hz)
    show l + p.sum ≤ B * (p.length + 1)
    rw [Nat.mul_succ]
    omega
theorem Pc_len_le {B n : Nat} (hB : 1 ≤ B) {p : List Nat} (h : Cut B n p) : (Pc B n).length ≤ p.length := by
  obtain ⟨h1, h2⟩ := (Cut_iff p n).mp h
  have h3 := sum_le p h2
  rw [h1] at h3
  unfold Pc
  rw [List.length_append, List.length_replicate]
  have h4 : n / B ≤ p.length := Nat.div_le_of_le_mul h3
  by_cases z : B * (n / B) < n
  · rw [if_pos z]
    have : n / B ≠ p.length := fun e => by rw [e] at z; omega
    show n / B + 1 ≤ p.length
    omega
  · rw [if_neg z]
    exact h4
theorem Wc_const (c : Int) (n : Nat) : ∀ (p : List Nat) (r : Nat), Wc (fun _ _ => c) n r p = (p.length : Int) * c
  | [], r => by show (0 : Int) = 0 * c; rw [Int.zero_mul]
  | l :: p, r => by
    show c + Wc (fun _ _ => c) n (r - l) p = ((p.length + 1 : Nat) : Int) * c
    rw [Wc_const c n p, show ((p.length + 1 : Nat) : Int) = (p.length : Int) + 1 by omega, Int.add_mul, Int.one_mul]
    omega
theorem De_const {c : Int} (h0 : 0 ≤ c) {n B : Nat} (hB : 1 ≤ B) : (De (fun _ _ => c) n B n).2.2 = Pc B n := by
  have hd := (De_cut (fun _ _ => c) n B hB n).1
  have a1 := De_least (fun _ _ => c) n B hB n (Pc B n) (Pc_cut hB)
  have hl := Pc_len_le hB hd
  have hx := Pc_lex hB n _ hd
  generalize (De (fun _ _ => c) n B n).2.2 = D at *
  have a2 : HT.lexLt (fk (fun _ _ => c) n n D) (fk (fun _ _ => c) n n (Pc B n)) = false := by
    unfold fk
    rw [Wc_const, Wc_const, HT.lexLt_cons]
    by_cases e : (D.length : Int) * c = ((Pc B n).length : Int) * c
    · rw [if_pos e, HT.lexLt_cons]
      by_cases e2 : (D.length : Int) = ((Pc B n).length : Int)
      · rw [if_pos e2]
        exact hx
      · rw [if_neg e2]
        exact decide_eq_false (by omega)
    · rw [if_neg e]
      have : ((Pc B n).length : Int) * c ≤ (D.length : Int) * c := Int.mul_le_mul_of_nonneg_right (by omega) h0
      exact decide_eq_false (by omega)
  have e := lx_eq _ _ a1 a2
  unfold fk at e
  exact (ngs_inj (List.cons.inj (List.cons.inj e).2).2).symm
theorem Wt_zero {y : Ly} (hE : y.E = 0) {ws : List Int} (hz : ∀ w ∈ ws, w = 0) : (Wt y ws).1 = y.H := by
  have h1 : mE y ws.length = 1 := by
    unfold mE
    rw [hE, Nat.zero_min]
  have h2 : wB y ws 1 = some (wOf y ws 0, 0) := by
    rw [wB_succ, wS_yes (.inl rfl)]
    rfl
  unfold Wt
  rw [h1, h2]
  show wOf y ws 0 = y.H
  have h3 : atZ ws 0 = 0 := by
    unfold atZ
    cases ws with
    | nil => rfl
    | cons w r => exact hz w List.mem_cons_self
  unfold wOf
  rw [h3, Int.mul_zero]
  show (0 : Int) + ((0 : Nat) : Int) * y.X + y.H = y.H
  omega
theorem gW_zero {y : Ly} (hE : y.E = 0) (n : Nat) : gW y (List.replicate n 0) = fun _ _ => (y.H : Int) := by
  funext b len
  refine Wt_zero hE fun w hw => ?_
  have hw := desc_mem hw
  obtain ⟨s, hs, rfl⟩ := List.mem_map.mp hw
  have : s = 0 := List.eq_of_mem_replicate (List.mem_of_mem_drop (List.mem_of_mem_take hs))
  rw [this]
  rfl
theorem Cs_zero {y : Ly} (ok : y.Ok) (hE : y.E = 0) (n : Nat) : Cs y (List.replicate n 0) = Pc y.B n ∧ Wc (gW y (List.replicate n 0)) (List.replicate n (0 : Int)).length (List.replicate n (0 : Int)).length (Pc y.B n) = ((Pc y.B n).length : Int) * y.H := by
  constructor
  · unfold Cs
    split
    · unfold Fc
      rw [gW_zero hE, List.length_replicate]
      exact De_const (by omega) ok.b1
    · rw [List.length_replicate]
  · rw [gW_zero hE]
    exact Wc_const _ _ _ _
end Wq
set_option Elab.async false
set_option linter.all false
set_option maxRecDepth 100000
set_option maxHeartbeats 4000000
namespace Wq
open PySem PySem.Spec PyProof.Rows L2
/-! a tuple of one thing, many times -/
def rOne (K : PySem.W.Frag) : R2 := fun x y H Q => ∃ (b : Addr) (v : V) (m : Nat), x = .ref b ∧ y = nI m ∧ SqT K H b [v] ∧ 2 ≤ m ∧ m ≤ 9000 ∧
  ∀ p, H p = none → Q (.ref p) (upd H p (.tup (List.replicate m [v]).flatten))
theorem one_flat (v : V) (m : Nat) : (List.replicate m [v]).flatten = List.replicate m v := by
  induction m with
  | zero => rfl
  | succ n ih => rw [List.replicate_succ, List.replicate_succ, List.flatten_cons, ih]; rfl
theorem op_one {X : Cx} : OpR X (binaryOp .Mult) (rOne X.K) := by
  intro pins s σ H x y v' u' Q I rx ry hh
  obtain ⟨b, v, m, ex, ey, hT, m2, m9, kq⟩ := hh
  subst ex ey
  obtain rfl : v' = Value.ref b := rx
  obtain ⟨tk, rfl⟩ := ry
  obtain ⟨its, rl, ⟨⟨cl, dc, dt, sls⟩, hob, hcl, cap, hdt⟩, hsz⟩ := I.tuple hT
  simp only at hcl hdt
  subst hcl hdt
  obtain ⟨w0, rfl⟩ : ∃ w0, its = [w0] := by
    cases rl with
    | cons a r => cases r; exact ⟨_, rfl⟩
  have q0 : (decide ((m : Int) < -(2 ^ 63)) || decide ((m : Int) ≥ 2 ^ 63)) = false := by
    rw [Bool.or_eq_false_iff]
    exact ⟨decide_eq_false (by omega), decide_eq_false (by omega)⟩
  have q1 : (([w0] : List Value).toArray.isEmpty || (m : Int) == 1) = false := by
    have : ((m : Int) == 1) = false := beq_eq_false_iff_ne.mpr (by omega)
    rw [this]
    rfl
  have q2 : (decide ((m : Int) ≤ 0) || ([w0] : List Value).toArray.isEmpty) = false := by
    rw [decide_eq_false (show ¬ (m : Int) ≤ 0 by omega)]
    rfl
  have q3 : ¬ ((([w0] : List Value).toArray.size : Nat) : Int) * (m : Int) > (2 ^ 63 - 1) / 8 := by
    show ¬ ((1 : Nat) : Int) * (m : Int) > (2 ^ 63 - 1) / 8
    omega
  have q4 : Builtin.Tuple.tupleTooMany (((([w0] : List Value).toArray.size : Nat) : Int) * (m : Int)) = false := by
    show Builtin.Tuple.tupleTooMany (((1 : Nat) : Int) * (m : Int)) = false
    unfold Builtin.Tuple.tupleTooMany
    rw [sizeLine_eq]
    refine decide_eq_false ?_
    omega
  have hlen : (List.replicate m [w0]).flatten.length = m := by
    rw [PyProof.Rows.lm_len_rep_flat]
    exact Nat.mul_one m
  have hlv : (List.replicate m [v]).flatten.length = m := by
    rw [PyProof.Rows.lm_len_rep_flat]
    exact Nat.mul_one m
  have hm : ((m : Int)).toNat = m := by omega
  have q5 : (List.foldl (fun x1 x2 => x1 ++ x2) #[] (List.replicate ((m : Int)).toNat ([w0] : List Value).toArray)).size ≤ sizeLine := by
    rw [size_rep, hm, List.size_toArray, hlen, sizeLine_eq]
    omega
  have big := tuple_mulW b ([w0] : List Value).toArray cap dc sls (m : Int) tk q0 q1 q2 q3 q4 q5
  have tyB : s.TypeIs (Value.ref b) "tuple" := ⟨_, hob, rfl⟩
  have hnew := I.hok.fresh (Nat.le_refl s.heap.objs.size)
  refine wpAny_binaryOp_repeat_ref (T := "tuple") (U := "int") (hTU := by decide) (ha := tyB)
    (hn := fun z => typeIs_int z (m : Int) tk) (hfT := noFill_tuple_mul) (hfU := F.fills_int_mul)
    (hr := F.slot_int_rmul) (hrep := repeat_tuple) (hix := F.slot_int_index.lookup) (hc := ?_)
  refine call_meets F.slot_int_rmul (typeIs_int s (m : Int) tk) F.entry_int_rmul (F.args_int_rmul_2 _ _)
    (int_rmul_tuple (m : Int) tk b ([w0] : List Value).toArray cap dc sls) ?_
  refine ⟨hob, rfl, tyB, ?_⟩
  refine call_meets F.slot_tuple_mul tyB F.entry_tuple_mul (F.args_tuple_mul_2 _ _) big ?_
  refine ⟨hob, ?_⟩
  rw [size_rep, hm]
  have hI := I.laid (t' := s.toks) (o := .tup (List.replicate m [v]).flatten) (fun b' ob' q' => Heap.get?_push_of_some _ q') (Nat.le_refl _)
    ⟨by rw [hlv, sizeLine_eq]; omega, _, rl.rep m, IsTup.new _ _⟩
  exact ⟨.ref s.heap.objs.size, _, hI, rfl, kq _ hnew⟩
end Wq
set_option Elab.async false
set_option linter.all false
set_option maxRecDepth 100000
set_option maxHeartbeats 8000000
namespace Wq
open PySem PySem.Spec PyProof.Rows L2
open SX (S S_len S_cat S_beq_eq)
theorem catA_big {K : PySem.W.Frag} {H : Hp} {a b : Addr} {xs ys : List V} {Q : VK} (ha : SqT K H a xs) (hb : SqT K H b ys) (hl : xs.length + ys.length ≤ 9000) (k : ∀ c G, Same H G → SqT K G c (xs ++ ys) → Q (.ref c) G) : rCatA K (.ref a) (.ref b) H Q := by
  refine ⟨a, b, xs, ys, rfl, rfl, ha, hb, by rw [sizeLine_eq]; omega, fun e => ?_, fun _ e => ?_, fun _ _ p hp => k p _ (sNew hp) (.inl (.inl upd_same))⟩
  · exact k b H (.refl _) (by rw [e]; exact hb)
  · exact k a H (.refl _) (by rw [e, List.append_nil]; exact ha)
abbrev sLR : Stmt := top 37
abbrev NLR : List Str := ["_law_pen_here", "_law_many", "_law_block", "_law_head_here", "_law_layout", "_law_rest", "_law_cuts_here", "_law_steps_here"]
theorem scLR : FnScope NLR ["_law_pen_here"] (defScope sLR) := ⟨rfl, rfl, rfl, by decide +kernel, rfl, by decide +kernel, by decide +kernel⟩
def spLR : Sp := fun vs H Q _ => ∃ (p c : Addr) (m : Nat), vs = [.ref p] ∧ PenAt H p c m ∧ m < 1000000 ∧ ∀ G, Q (.bl true) G
/-- the layout of the long steps -/
def yL (B h : Nat) : Ly := ⟨true, B, 0, 0, h⟩
theorem yL_ok {B h : Nat} (h1 : 1 ≤ B) (h2 : B ≤ 3) (h3 : h ≤ 8) : PaX (yL B h) (h : Int) := by
  refine ⟨⟨⟨h1, ?_, ?_, ?_, ?_⟩, ?_, ?_, ?_⟩, fun _ => rfl⟩
  · show B ≤ 16
    omega
  · show 0 ≤ 4
    omega
  · show 0 ≤ 24
    omega
  · show h ≤ 64
    omega
  · intro (z : 0 < 0)
    omega
  · omega
  · unfold HdOk
    show ((h : Nat) : Int) = if ((h : Nat) : Int) < 0 then 8 else ((h : Nat) : Int)
    rw [if_neg (by omega)]
theorem yL_tx (B h : Nat) : Tx (yL B h) (h : Int) = cBlk true ++ TL.numL B ++ cHead ++ TL.numL h ++ cBits := by
  unfold Tx tEx tHd
  rw [if_neg (show ¬ 0 < (yL B h).E from Nat.lt_irrefl 0), if_pos (show (0 : Int) ≤ ((h : Nat) : Int) by omega), List.nil_append]
  show cBlk true ++ (TL.numL B ++ (cHead ++ (TL.numL ((h : Int)).toNat ++ cBits))) = _
  rw [show ((h : Int)).toNat = h by omega]
  simp only [List.append_assoc]
section
variable {P : Program} {w : World} {K : PySem.W.Frag} {mg : Str → Option Value} {base : Heap} {C CE : Addr}
theorem ok_LR {fa : Addr} {fd : FuncData} (F : Fun K "_law_is_long_right" "_law_is_long_right" sLR fa fd) (T : Txt K mg) (TX : TxtL K mg C) (M : LyM P w K mg base C CE) (CD : Cl P w K mg base 1 "_law_draw" (spDraw K)) (CP : Cl P w K mg base 2 "_law_pick" (spPick K)) : FnG P w K mg base CX0 7 fa fd ["_law_pen_here"] spLR := by
  obtain ⟨oc, od, kV, doc, pm, an, cdv, ct, osl, rfl, lk, hcd⟩ := F.ex
  obtain ⟨f0, fd0, M0, G0, b0⟩ := M.mke
  obtain ⟨fC, fdC, MC, GC, bC⟩ := M.cu
  obtain ⟨fT, fdT, MT, GT, bT⟩ := M.to
  refine fnG_of (k := 6) lk hcd scLR (fun vs H Q E h => ?_) (fun A1 hg outer s H vs Q E hr h => ?_)
  · obtain ⟨p, c, m, rfl, _⟩ := h
    rfl
  · obtain ⟨p, c, m, rfl, hP, hm, k⟩ := h
    have hG : (A1.deeper (envOfC "_law_is_long_right" (defScope sLR) s.heap.objs.size fa cdv)).guards = some [] := hg
    have r5 : Room 5 _ := hr.mono (by decide)
    refine ⟨_, PSs.nox (C8.pss_cut (ps_par3 (i := 1) (j := 2) (l := 3) (by rfl) scLR.nd rfl rfl rfl (by decide) (by decide) (by decide) rfl rfl rfl (pa_cons (pe_op op_add pe_int (pe_cl CD hr (by decide) rfl (pa_cons (pv 0) (pa_cons pe_int pa_nil)))) (pa_cons (pe_op op_add pe_int (pe_cl CD hr (by decide) rfl (pa_cons (pv 0) (pa_cons pe_int pa_nil)))) (pa_cons (pe_cl CP hr (by decide) rfl (pa_cons (pv 0) (pa_cons (pe_lst (pa_cons pe_int (pa_cons pe_int (pa_cons pe_int pa_nil)))) pa_nil))) pa_nil))) (by rfl))
(C8.pss_cut (ps_par (i := 4) (j := 5) (by rfl) scLR.nd rfl rfl (by decide) rfl rfl (pa_cons (pe_make M0 G0 hr rfl (by exact TX.gC) b0 .nil pass0 (pa_cons (pe_op op_add_str (pe_op op_add_str (pe_op op_add_str (pe_op op_add_str pe_str (pe_callTy call_str_int (by rfl) (by exact TX.str) (by decide +kernel) (pa_cons (pv 2) pa_nil))) pe_str) (pe_callTy call_str_int (by rfl) (by exact TX.str) (by decide +kernel) (pa_cons (pv 3) pa_nil))) pe_str) pa_nil)) (pa_cons (pe_op op_mod (pe_callTy call_int1 (by rfl) (by exact T.int) PyProof.Rows.boot_int (pa_cons (pv 1) pa_nil)) (pv 2)) pa_nil)) (by rfl))
(C8.pss_cut (ps_set (i := 6) scLR.nd rfl (Or.inl rfl) (pe_op op_one (pe_tup (pa_cons (pv 2) pa_nil)) (pe_op op_fdiv (pv 1) (pv 2))))
(C8.pss_cut (ps_if (pt_cmpR op_gt (pv 5) pe_int (nomark _))
(pss_one (ps_set (i := 6) scLR.nd rfl (Or.inl rfl) (pe_op op_catA (pv 6) (pe_tup (pa_cons (pv 5) pa_nil)))))
pss_nil)
(pss_cons (ps_set (i := 7) scLR.nd rfl (Or.inl rfl) (pe_op op_rep (pe_lst (pa_cons pe_int pa_nil)) (pv 1)))
(pss_one (ps_ret (pe_and (pe_cmpR op_eq (pe_callB (call_repr hG (hu64 hr)) (by rfl) (by exact TX.repr) PyProof.Rows.boot_repr (pa_cons (pe_meth (pv 4) TX.cl MC GC r5 bC .nil pass0 (pa_cons (pv 7) pa_nil)) pa_nil)) (pe_callB (call_repr hG (hu64 hr)) (by rfl) (by exact TX.repr) PyProof.Rows.boot_repr (pa_cons (pv 6) pa_nil)) (nomark _)) (pe_one (pe_cmpR op_eq (pe_callB (call_repr hG (hu64 hr)) (by rfl) (by exact TX.repr) PyProof.Rows.boot_repr (pa_cons (pe_meth (pv 4) TX.cl MT GT hr bT .nil pass0 (pa_cons (pe_callTy call_tuple_of (by rfl) (by exact T.tuple) (by decide +kernel) (pa_cons (pv 7) pa_nil)) pa_nil)) pa_nil)) (pe_callB (call_repr hG (hu64 hr)) (by rfl) (by exact TX.repr) PyProof.Rows.boot_repr (pa_cons (pe_op op_mul (pv 3) (pe_callB call_len_seq (by rfl) (by exact T.len) PySem.boot_len (pa_cons (pv 6) pa_nil))) pa_nil)) (nomark _))))))))))), ?_⟩
    refine ⟨fun σ G => ∃ N B h : Nat, σ = [some (.ref p), some (nI N), some (nI B), some (nI h), none, none, none, none] ∧ 1000 ≤ N ∧ N ≤ 1199 ∧ 1 ≤ B ∧ B ≤ 3 ∧ h ≤ 8, ?_, ?_⟩
    · refine ⟨_, rfl, p, c, m, 200, rfl, hP, by omega, by decide, log_ok (by decide) (by decide), fun v1 o1 a1 b1 hP1 => ⟨_, _, rfl, rfl, _, rfl, p, c, m + 1, 3, rfl, hP1, by omega, by decide, log_ok (by decide) (by decide), fun v2 o2 a2 b2 hP2 => ⟨_, _, rfl, rfl, _, rfl, by show 3 ≤ sizeLine; decide, fun l hl => ?_⟩⟩⟩
      have n2 := ((Pn.refl hP).draw hP1).draw hP2
      have n3 := n2.new (o := .lst [.int 0, .int 1, .int 8]) hl
      refine ⟨p, c, m + 2, .ref l, _, rfl, n3.pen, .lst (.inl (.inl upd_same)), by omega, Nat.succ_pos _, (by show 3 < 1073741824; decide), fun i v o hv hP3 => ?_⟩
      obtain ⟨z, hz, rfl⟩ := pick_int (ns := [0, 1, 8]) hv
      have hz : 0 ≤ z ∧ z ≤ 8 := by simp at hz; omega
      refine ⟨_, _, _, rfl, 1000 + v1.toNat, 1 + v2.toNat, z.toNat, ?_, by omega, by omega, by omega, by omega, by omega⟩
      have e : ∀ u1 u2 u3 : Int, u1 = ((1000 + v1.toNat : Nat) : Int) → u2 = ((1 + v2.toNat : Nat) : Int) → u3 = ((z.toNat : Nat) : Int) → [some (V.ref p), some (.int u1), some (.int u2), some (.int u3), none, none, none, none] = [some (V.ref p), some (nI (1000 + v1.toNat)), some (nI (1 + v2.toNat)), some (nI z.toNat), none, none, none, none] := by
        rintro _ _ _ rfl rfl rfl
        rfl
      exact e _ _ _ (by omega) (by omega) (by omega)
    rintro σ G1 ⟨N, B, h, rfl, hN1, hN2, hB1, hB2, hh⟩
    have hp := yL_ok hB1 hB2 hh
    have ok := hp.ok
    refine ⟨fun σ G => ∃ a : Addr, σ = [some (.ref p), some (nI N), some (nI B), some (nI h), some (.ref a), some (nI (N % B)), none, none] ∧ LyAt C G a (yL B h), ?_, ?_⟩
    · have h1 := num_len2 (show B < 100 by omega)
      have h2 := num_len2 (show h < 100 by omega)
      have l0 : (cBlk true).length = 15 := rfl
      have l3 : cBits.length = 5 := rfl
      have l4 : cHead.length = 6 := rfl
      refine ⟨_, rfl, _, rfl, log_n (show B < 100 by omega), S (cBlk true), S (TL.numL B), lit_b1, num_V B, lenV (by omega), S (cBlk true ++ TL.numL B), S cHead, catV _ _, lit_h, lenV (by rw [List.length_append]; omega), ?_⟩
      refine ⟨_, rfl, _, rfl, log_n (show h < 100 by omega), S (cBlk true ++ TL.numL B ++ cHead), S (TL.numL h), catV _ _, num_V h, lenV (by simp only [List.length_append]; omega), S (cBlk true ++ TL.numL B ++ cHead ++ TL.numL h), S cBits, catV _ _, lit_t, lenV (by simp only [List.length_append]; omega), ?_⟩
      intro x dx hx hdx hne
      refine ⟨x, dx, yL B h, (h : Int), ?_, hp, upd_same, fun G sp hGx => ⟨rfl, ?_⟩⟩
      · rw [yL_tx]
        exact congrArg (fun z => [V.ref x, z]) (catV _ _)
      refine ⟨_, rfl, .inl ⟨_, rfl, _, rfl, _, _, rfl, rfl, by omega, ?_⟩⟩
      exact ⟨_, _, rfl, x, rfl, dx, _, hGx⟩
    rintro σ G2 ⟨a, rfl, hy⟩
    have hdm := Nat.div_add_mod N B
    have hd1 : N / B ≤ N := Nat.div_le_self _ _
    have hd2 : 2 ≤ N / B := (Nat.le_div_iff_mul_le (by omega)).mpr (by omega)
    refine ⟨fun σ G => ∃ t : Addr, σ = [some (.ref p), some (nI N), some (nI B), some (nI h), some (.ref a), some (nI (N % B)), some (.ref t), none] ∧ LyAt C G a (yL B h) ∧ SqT K G t ((List.replicate (N / B) B).map nI), ?_, ?_⟩
    · refine ⟨_, rfl, by show 1 ≤ sizeLine; decide, fun u hu => ?_⟩
      have su := sNew (o := .tup [nI B]) hu
      refine ⟨_, rfl, _, rfl, _, _, rfl, rfl, ⟨by omega, by omega⟩, u, nI B, N / B, rfl, rfl, .inl (.inl upd_same), hd2, by omega, fun t ht => ?_⟩
      rw [one_flat]
      have st := sNew (o := .tup (List.replicate (N / B) (nI B))) ht
      refine ⟨t, rfl, hy.same (su.trans st), .inl (.inl ?_)⟩
      rw [upd_same, List.map_replicate]
    rintro σ G3 ⟨t, rfl, hy, ht⟩
    refine ⟨fun σ G => ∃ t : Addr, σ = [some (.ref p), some (nI N), some (nI B), some (nI h), some (.ref a), some (nI (N % B)), some (.ref t), none] ∧ LyAt C G a (yL B h) ∧ SqT K G t ((Pc B N).map nI), ?_, ?_⟩
    · refine ⟨_, rfl, _, _, rfl, rfl, _, rfl, ?_⟩
      refine ite2 (fun h0 => ?_) (fun h0 => ?_)
      · have h0 : (0 : Int) < ((N % B : Nat) : Int) := of_decide_eq_true h0
        refine ⟨_, rfl, _, rfl, by show 1 ≤ sizeLine; decide, fun u hu => ?_⟩
        have su := sNew (o := .tup [nI (N % B)]) hu
        refine catA_big (xs := (List.replicate (N / B) B).map nI) (ys := [nI (N % B)]) (SqT_same ht su) (.inl (.inl upd_same)) (by rw [List.length_map, List.length_replicate]; show N / B + 1 ≤ 9000; omega) fun c4 G4 s4 hc4 => ?_
        refine ⟨c4, rfl, hy.same (su.trans s4), ?_⟩
        have e : (Pc B N).map nI = (List.replicate (N / B) B).map nI ++ [nI (N % B)] := by
          unfold Pc
          rw [if_pos (by omega), List.map_append, show N - B * (N / B) = N % B by omega]
          rfl
        rw [e]
        exact hc4
      · have h0 : ¬ (0 : Int) < ((N % B : Nat) : Int) := fun z => h0 (decide_eq_true z)
        refine ⟨t, rfl, hy, ?_⟩
        have e : Pc B N = List.replicate (N / B) B := by
          unfold Pc
          rw [if_neg (by omega), List.append_nil]
        rw [e]
        exact ht
    clear ht hy t
    rintro σ G4 ⟨t, rfl, hy, ht⟩
    refine ⟨by show 1 ≤ sizeLine; decide, fun e he => ?_⟩
    have se := sNew (o := .lst [.int 0]) he
    refine ⟨_, rfl, e, (N : Int), [.int 0], rfl, rfl, upd_same, by omega, by omega, ?_, fun z hz => ?_⟩
    · show 1 * ((N : Int)).toNat ≤ sizeLine
      rw [sizeLine_eq]
      omega
    rw [rep_flat, show ((N : Int)).toNat = N by omega]
    have sz := sNew (o := .lst ((List.replicate N 0).map V.int)) hz
    have sA := se.trans sz
    have hst : St (List.replicate N 0) := fun s hs => by
      rw [List.eq_of_mem_replicate hs]
      decide
    have hrl : (List.replicate N (0 : Int)).length = N := List.length_replicate ..
    obtain ⟨e1, e2⟩ := Cs_zero ok rfl N
    have hcut : Cut B N (Pc B N) := Pc_cut hB1
    have hcl := Cut_len hcut
    have tC := tD_ok (ns := (Pc B N).map fun n : Nat => (n : Int)) (cs_bd hcut (by omega)) (by rw [List.length_map]; omega)
    have e1 : Cs (yL B h) (List.replicate N 0) = Pc B N := e1
    have e2 : Wc (gW (yL B h) (List.replicate N 0)) (List.replicate N (0 : Int)).length (List.replicate N (0 : Int)).length (Pc B N) = ((Pc B N).length : Int) * (h : Int) := e2
    have hmul : ((Pc B N).length : Int) * (h : Int) = (h : Int) * ((((Pc B N).map nI).length : Nat) : Int) := by
      rw [List.length_map, Int.mul_comm]
    have hb : 0 ≤ ((Pc B N).length : Int) * (h : Int) ∧ ((Pc B N).length : Int) * (h : Int) ≤ 1199 * 8 :=
      ⟨Int.mul_nonneg (by omega) (by omega), Int.mul_le_mul (by omega) (by omega) (by omega) (by decide)⟩
    have tI := iD_ok (abs_lt hb.1 (by omega))
    obtain ⟨dx, tx, hyo⟩ := hy.same sA
    refine ⟨_, rfl, a, dx, _, rfl, hyo, by rfl, _, rfl, a, z, yL B h, List.replicate N 0, rfl, hy.same sA, ok, .inl (.inl (.inl upd_same)), hst, by omega, fun r G5 s5 hr5 => ?_⟩
    rw [e1, nI_map] at hr5
    have ht5 := SqT_same ht (sA.trans s5)
    have hz5 := s5 z _ upd_same
    have hy5 := hy.same (sA.trans s5)
    have ht6 := ht5
    rw [nI_map] at ht6
    refine ⟨_, tD ((Pc B N).map fun n : Nat => (n : Int)), rfl, sh_tup (.inl (.inl hr5)), tC.1, tC.2.1, tC.2.2, _, rfl, _, tD ((Pc B N).map fun n : Nat => (n : Int)), rfl, sh_tup ht6, tC.1, tC.2.1, tC.2.2, rfl, _, rfl, ?_⟩
    refine (if_pos (by simp)).mpr ?_
    obtain ⟨dx, tx, hyo⟩ := id hy5
    refine ⟨_, rfl, a, dx, _, rfl, hyo, by rfl, _, rfl, z, _, rfl, .inl ⟨.inl (.inl hz5), fun l hl => ?_⟩⟩
    have sl := sNew (o := .tup ((List.replicate N 0).map V.int)) hl
    refine ⟨a, l, yL B h, List.replicate N 0, rfl, hy5.same sl, ok, .inr (.inl (.inl upd_same)), hst, by omega, fun G6 s6 => ?_⟩
    rw [e1, e2]
    have ht7 := SqT_same ht5 (sl.trans s6)
    refine ⟨_, .int (((Pc B N).length : Int) * (h : Int)), rfl, .int _, tI.1, tI.2.1, tI.2.2, _, rfl, _, rfl, t, _, rfl, .inr ht7, _, _, rfl, rfl, .inl ⟨by omega, by omega⟩, ?_⟩
    have tJ := tI
    rw [hmul] at tJ
    refine ⟨_, .int ((h : Int) * ((((Pc B N).map nI).length : Nat) : Int)), rfl, .int _, tJ.1, tJ.2.1, tJ.2.2, rfl, ?_⟩
    have := k G6
    rw [show (true : Bool) = decide (V.str (PyData.int (((Pc B N).length : Int) * (h : Int))).shown = V.str (PyData.int ((h : Int) * ((((Pc B N).map nI).length : Nat) : Int))).shown) from (decide_eq_true (by rw [hmul])).symm] at this
    exact this
end
end Wq
set_option Elab.async false
set_option linter.all false
set_option maxRecDepth 100000
set_option maxHeartbeats 8000000
namespace Wq
open PySem PySem.Spec PyProof.Rows L2
/-! the law -/
structure ClG (P : Program) (w : World) (K : PySem.W.Frag) (mg : Str → Option Value) (base : Heap) (k : Nat) (x : Str) (sp : Sp) : Prop where
  ex : ∃ (f : Addr) (fd : FuncData) (ps : List Str), FnG P w K mg base CX0 k f fd ps sp ∧ mg x = some (.ref f) ∧ PySem.W.keepIn K (.ref f) = true ∧ L2.Binds K fd ps []
section
variable {X : Cx} {k j : Nat} {x : Str} {sp : Sp} {p pos : Pos} {e : Expr} {es : List Expr} {t : TA}
theorem pe_clG (c : ClG X.prog X.w X.K X.mg X.base k x sp) (hr : Room j X.A) (hk : k ≤ j) (hG : X.A.guards = some []) (hg : Gl X x) (ha : PA X (e :: es) t)
    (hdb : (x == ("__debug__" : Str)) = false := by decide) (he : starEach (e :: es) X.env = (false, eval e X.env) :: starEach es X.env := by rfl) (hpl : (backTo pos (starEach es X.env)).any (·.1) = false := by rfl) :
    PE X (.Call (.Name x p) (e :: es) [] pos) (tCall sp [] E0 t) := by
  obtain ⟨f, fd, ps, F, hm, kp, b⟩ := c.ex
  exact pe_callG F (hr.mono hk) hG hg hm kp b .nil pass0 ha hdb he hpl
end
abbrev sLaw : Stmt := top 38
abbrev NLaw : List Str := ["_law_script", "_law_pen_here", "_law_parts_here", "_law_steps_here"]
theorem scLaw : FnScope NLaw ["_law_script"] (defScope sLaw) := ⟨rfl, rfl, rfl, by decide +kernel, rfl, by decide +kernel, by decide +kernel⟩
def spLaw (K : PySem.W.Frag) : Sp := fun vs H Q _ => ∃ (a : Addr) (ns : List Int), vs = [.ref a] ∧ SqL K H a (ns.map V.int) ∧ ∀ H', Q (.bl true) H'
/-- the same layout, free or not -/
def yF (y : Ly) (b : Bool) : Ly := { y with fr := b }
theorem PaX.free {y : Ly} {hd : Int} (h : PaX y hd) (b : Bool) : PaX (yF y b) hd := ⟨⟨⟨h.ok.b1, h.ok.b16, h.ok.e, h.ok.x, h.ok.h⟩, h.ex, h.h64, h.ho⟩, h.x0⟩
theorem cut_one {y : Ly} {hd : Int} : cutV (paV y hd) (some 1) none = [nI y.B, nI y.E, nI y.X, .int hd] := by
  have := cut_from (xs := paV y hd) (k := 1)
  exact this
section
variable {P : Program} {w : World} {K : PySem.W.Frag} {mg : Str → Option Value} {base : Heap} {C CE : Addr}
theorem ok_law {fa : Addr} {fd : FuncData} (F : Fun K "law" "law" sLaw fa fd) (T : Txt K mg) (CPn : Cl P w K mg base 1 "_law_pen" (spPen K)) (CD : Cl P w K mg base 1 "_law_draw" (spDraw K)) (CP : Cl P w K mg base 2 "_law_pick" (spPick K))
    (CLP : Cl P w K mg base 3 "_law_parts" spLP) (CLS : Cl P w K mg base 3 "_law_steps" spLS) (GR : ClG P w K mg base 7 "_law_is_right" (spIR K)) (GL : ClG P w K mg base 7 "_law_is_long_right" spLR) : FnG P w K mg base CX0 8 fa fd ["_law_script"] (spLaw K) := by
  obtain ⟨oc, od, kV, doc, pm, an, cdv, ct, osl, rfl, lk, hcd⟩ := F.ex
  refine fnG_of (k := 7) lk hcd scLaw (fun vs H Q E h => ?_) (fun A1 hg outer s H vs Q E hr h => ?_)
  · obtain ⟨a, ns, rfl, _⟩ := h
    rfl
  · obtain ⟨a, ns, rfl, hS, k⟩ := h
    have hG : (A1.deeper (envOfC "law" (defScope sLaw) s.heap.objs.size fa cdv)).guards = some [] := hg
    refine ⟨_, PSs.nox (pss_cons (ps_set (i := 1) scLaw.nd rfl (Or.inl rfl) (pe_cl CPn hr (by decide) rfl (pa_cons (pv 0) pa_nil)))
(pss_cons (ps_set (i := 2) scLaw.nd rfl (Or.inl rfl) (pe_cl CLP hr (by decide) rfl (pa_cons (pv 1) pa_nil)))
(pss_cons (ps_set (i := 3) scLaw.nd rfl (Or.inl rfl) (pe_cl CLS hr (by decide) rfl (pa_cons (pv 1) (pa_cons (pe_cl CP hr (by decide) rfl (pa_cons (pv 1) (pa_cons (pe_lst (pa_cons pe_int (pa_cons pe_int (pa_cons pe_int (pa_cons pe_int (pa_cons pe_int (pa_cons pe_int (pa_cons pe_int (pa_cons pe_int (pa_cons pe_int pa_nil)))))))))) pa_nil))) (pa_cons pe_int pa_nil)))))
(C8.pss_cut (ps_if (PW.pt (pw_or (pt_not (pt_val (pe_clG GR hr (by decide) hG rfl (pa_cons (pe_op op_cat (pe_lst (pa_cons pe_bl pa_nil)) (pe_slice sl_list (pv 2) (po_some pe_int) po_none)) (pa_cons (pv 3) pa_nil))))) (pw_or1 (pt_not (pt_val (pe_clG GR hr (by decide) hG rfl (pa_cons (pe_op op_cat (pe_lst (pa_cons pe_bl pa_nil)) (pe_slice sl_list (pv 2) (po_some pe_int) po_none)) (pa_cons (pv 3) pa_nil))))))))
(pss_one (ps_ret pe_bl))
pss_nil)
(pss_one (ps_ret (pe_or (pe_cmpR op_gt (pe_cl CD hr (by decide) rfl (pa_cons (pv 1) (pa_cons pe_int pa_nil))) pe_int (nomark _)) (pe_one (pe_clG GL hr (by decide) hG rfl (pa_cons (pv 1) pa_nil)))))))))), ?_⟩
    refine ⟨_, rfl, a, ns, rfl, hS, fun p c H0 _ _ HP0 => ?_⟩
    refine ⟨_, rfl, p, c, 0, rfl, HP0, by decide, fun y hd q G1 n1 hq0 hq1 hp => ?_⟩
    refine ⟨_, rfl, _, rfl, by show 9 ≤ sizeLine; decide, fun l hl => ?_⟩
    have n2 := (Pn.refl n1.pen).new (o := .lst [.int 0, .int 1, .int 2, .int 4, .int 6, .int 8, .int 8, .int 17, .int 30]) hl
    refine ⟨p, c, 0 + 10, .ref l, _, rfl, n2.pen, .lst (.inl (.inl upd_same)), by omega, Nat.succ_pos _, (by show 9 < 1073741824; decide), fun i v o hv hP2 => ?_⟩
    obtain ⟨z, hz, rfl⟩ := pick_int (ns := [0, 1, 2, 4, 6, 8, 8, 17, 30]) hv
    have hz : 0 ≤ z ∧ z ≤ 30 := by simp at hz; omega
    have n3 := n2.draw hP2
    refine ⟨p, c, 0 + 10 + 1, z.toNat, ?_, n3.pen, by omega, by omega, fun ss s0 G4 hsl hst n4 hs0 hs1 => ?_⟩
    · have e : ∀ u : Int, u = ((z.toNat : Nat) : Int) → [V.ref p, .int u, .int 4] = [V.ref p, nI z.toNat, .int 4] := by
        rintro _ rfl
        rfl
      exact e z (by omega)
    have n5 := n3.trans n4
    have hq4 := n5.lst hq1
    have hP4 := n5.pen
    refine ⟨fun σ G => σ = [some (.ref a), some (.ref p), some (.ref q), some (.ref s0)] ∧ Same G4 G, ?_, ?_⟩
    · refine ⟨by show 1 ≤ sizeLine; decide, fun e he => ?_⟩
      have s1 := sNew (o := .lst [.bl true]) he
      refine ⟨_, rfl, _, rfl, q, _, rfl, .inl (.inl (s1 _ _ hq4)), fun b hb => ?_⟩
      rw [cut_one]
      have s2 := sNew (o := .lst [nI y.B, nI y.E, nI y.X, .int hd]) hb
      refine ⟨e, b, _, _, rfl, rfl, s2 _ _ upd_same, upd_same, by show 1 + 4 ≤ sizeLine; decide, fun r hr' => ?_⟩
      have s3 := sNew (o := .lst ([.bl true] ++ [nI y.B, nI y.E, nI y.X, .int hd])) hr'
      have sA := s1.trans (s2.trans s3)
      refine ⟨_, rfl, r, s0, yF y true, hd, ss, rfl, .inl (.inl upd_same), hp.free true, sA _ _ hs1, hst, by omega, fun G5 s5 => ⟨_, rfl, ?_⟩⟩
      refine (if_neg (by decide)).mpr ?_
      have sB := sA.trans s5
      refine ⟨by show 1 ≤ sizeLine; decide, fun e' he' => ?_⟩
      have t1 := sNew (o := .lst [.bl false]) he'
      refine ⟨_, rfl, _, rfl, q, _, rfl, .inl (.inl (t1 _ _ (sB _ _ hq4))), fun b' hb' => ?_⟩
      rw [cut_one]
      have t2 := sNew (o := .lst [nI y.B, nI y.E, nI y.X, .int hd]) hb'
      refine ⟨e', b', _, _, rfl, rfl, t2 _ _ upd_same, upd_same, by show 1 + 4 ≤ sizeLine; decide, fun r' hr'' => ?_⟩
      have t3 := sNew (o := .lst ([.bl false] ++ [nI y.B, nI y.E, nI y.X, .int hd])) hr''
      have sC := sB.trans (t1.trans (t2.trans t3))
      refine ⟨_, rfl, r', s0, yF y false, hd, ss, rfl, .inl (.inl upd_same), hp.free false, sC _ _ hs1, hst, by omega, fun G6 s6 => ⟨_, rfl, ?_⟩⟩
      refine (if_neg (by decide)).mpr ?_
      exact ⟨rfl, sC.trans s6⟩
    rintro σ G7 ⟨rfl, s7⟩
    have hP7 := hP4.same s7
    refine ⟨_, rfl, p, c, _, 10, rfl, hP7, by omega, by decide, log_ok (by decide) (by decide), fun v' o' a' b' hP8 => ⟨_, _, rfl, rfl, _, rfl, ?_⟩⟩
    refine ite2 (fun h0 => ?_) (fun h0 => ?_)
    · exact k (upd G7 p o')
    · exact ⟨_, rfl, p, c, _, rfl, hP8, by omega, fun G => k G⟩
end
end Wq
set_option Elab.async false
set_option linter.all false
set_option maxRecDepth 100000
set_option maxHeartbeats 2000000
/-! the end: the law is called where nothing is being shown -/
namespace Wq
open PySem PySem.Spec PyProof.Rows L2
theorem callG {P : Program} {w : World} {K : PySem.W.Frag} {mg mb : Str → Option Value} {CX : CXT} {k : Nat} {fa a : Addr} {fd : FuncData} {x : Str} {sp : Sp} {s : Shared} {vs : List Value} {ns : List Int} {n : Nat}
    (KX : K.In s.heap) (hns : s.heap.Ns mainGlobals mg) (hb : s.heap.Ns builtinsNs mb) (hbb : ∀ x : Str, x ≠ "__name__" → mb x = bootBuiltins x) (hlim : s.heap.NoLimit) (hg : s.gens = #[])
    (ha : s.heap.get? a = some { cls := .type "list", data := .seq vs.toArray }) (hi : IntsAre vs ns) (hl : ns.length ≤ n) (hn : n ≤ sizeLine) (hr : Room k callerA)
    (F : ∀ base : Heap, K.In base → base.Ns mainGlobals mg → FnG P w K mg base CX k fa fd [x] sp) (hbind : ∀ (s : Shared) (u : Value), BindsTo s fd ⟨[u], []⟩ [(x, u)])
    (hsp : ∀ H : Hp, Only H → SqL K H a (ns.map V.int) → sp [.ref a] H (fun v _ => v = .bl true) fun _ _ _ => False) (hCX : ∀ H e s', CX [] H s (fun _ _ _ => False) e s' → False) :
    codeAny (model P w) callerA (.call (.ref fa) ⟨[.ref a], []⟩) (fun r s' => r = .ok (.ret (.bool true)) ∧ OldK s.heap s'.heap ∧ s'.os = s.os ∧ AllBare s'.gens) s := by
  have rv := vals_ints hi
  have hz : (ns.map V.int).length ≤ sizeLine := by rw [List.length_map]; omega
  -- nothing but a is tracked in H
  have main : ∀ H : Hp, Only H → SqL K H a (ns.map V.int) → HOk P w H s.heap → (∀ b, H b ≠ none → b = a) → (H a ≠ none → K.lookup a = none) → codeAny (model P w) callerA (.call (.ref fa) ⟨[.ref a], []⟩) (fun r s' => r = .ok (.ret (.bool true)) ∧ OldK s.heap s'.heap ∧ s'.os = s.os ∧ AllBare s'.gens) s := by
    intro H hO hS ok only apart
    have nob : ∀ {b : Addr}, b ≠ a → H b = none := fun {b} h => Classical.byContradiction fun z => h (only b z)
    have hdict : ∀ {b : Addr} {m : Str → Option Value}, s.heap.Ns b m → (hidT s.heap H).Ns b m := by
      rintro b m ⟨o, es, ep, e, d, r⟩
      refine ⟨o, es, ep, hidT_get e (nob fun z => ?_), d, r⟩
      subst z
      rw [ha] at e
      cases e
      cases d
    have hKb : K.In (hidT s.heap H) := fun b o e => hidT_get (KX b o e) <| by
      by_cases hba : b = a
      · subst hba
        refine Classical.byContradiction fun z => ?_
        rw [apart z] at e
        cases e
      · exact nob hba
    obtain ⟨mc, c1, c2⟩ := hlim
    have e0 : Env0 P w K mg (hidT s.heap H) callerA [] s H := ⟨rfl, ⟨hKb, hdict hns, ⟨mb, hdict hb, hbb⟩, ⟨mc, hdict c1, c2⟩⟩, fun b o e => of_hidT e, Nat.le_of_eq (hidT_size _ _), trivial, fun b hb => (nomatch hb), ok, .of_eq hg⟩
    refine codeAny_mono ((F _ hKb (hdict hns)).go callerA hr rfl [] s H ⟨[.ref a], []⟩ [.ref a] [.ref a] _ _ e0 (hbind s (.ref a)) (.cons rfl .nil) (hsp H hO hS)) fun r s' h => ?_
    match r, h with
    | .error e, h => exact (hCX H e s' h).elim
    | .ok (.ret u), h =>
      obtain ⟨v, H', os, bare, un, ok', r', q⟩ := h
      have q : v = .bl true := q
      subst q
      have r' : u = Value.bool true := r'
      subst r'
      refine ⟨rfl, OldK.of_keep fun b o e => ?_, os, bare⟩
      rcases hO b with z | ⟨ob, xs, z⟩
      · exact un.keep b o e z (fun z => nomatch z) (fun z => nomatch z)
      · obtain ⟨e1, _⟩ := ok b _ z
        obtain ⟨e2, _⟩ := ok' b _ (un.frzs b ob _ z)
        rw [e1] at e
        cases e
        exact e2
  cases hk : K.lookup a with
  | some o =>
    have e := KX a o hk
    rw [ha] at e
    cases e
    exact main (fun _ => none) (fun _ => .inl rfl) (.inr ⟨_, vs.toArray, _, hk, rfl, rfl, rfl, by rw [List.size_toArray, hi.length]; omega, by simpa using rv⟩) (fun b u z => nomatch z) (fun b z => absurd rfl z) (fun z => absurd rfl z)
  | none =>
    let o : HO := .frz { cls := .type "list", data := .seq vs.toArray } (.lst (ns.map V.int))
    have h0 : upd (fun _ => none) a o a = some o := upd_same
    have h1 : ∀ {b}, b ≠ a → upd (fun _ => none) a o b = none := fun {b} h => upd_ne h
    refine main (upd (fun _ => none) a o) (fun b => ?_) (.inl (.inr ⟨_, h0⟩)) (fun b u z => ?_) (fun b z => Classical.byContradiction fun n => z (h1 n)) fun _ => hk
    · by_cases hb : b = a
      · rw [hb]; exact .inr ⟨_, _, h0⟩
      · exact .inl (h1 hb)
    · by_cases hb : b = a
      · subst hb
        rw [h0] at z
        cases z
        exact ⟨ha, hz, vs, _, rv, ha⟩
      · rw [h1 hb] at z
        cases z
theorem walkG {l : PySem.W.OpenLaw} {n k : Nat} {q : Program} {loose : List Str} {XP : (Str → Option Value) → Heap → Prop} {YP : World → Heap → Prop} {d : DefRec} {K : Params → PySem.W.Frag} {sp : World → Sp} {x : Str}
    (hn : l.most = some n) (hn2 : n ≤ sizeLine) (hdf : d.params.defaults = []) (hr : Room k callerA) (hY : ∀ (w : World) (h : Heap), YP w h → (K w.params).In h)
    (F : ∀ (w : World) (mg : Str → Option Value) (fa : Addr) (h : Heap), (K w.params).In h → h.Ns mainGlobals mg → mg d.name = some (.ref fa) →
      ∃ fd : FuncData, (∀ (s : Shared) (u : Value), BindsTo s fd ⟨[u], []⟩ [(x, u)]) ∧ ∀ base : Heap, (K w.params).In base → base.Ns mainGlobals mg → FnG l.prog w (K w.params) mg base CX0 k fa fd [x] (sp w))
    (hsp : ∀ (w : World) (H : Hp) (a : Addr) (ns : List Int), ns.length ≤ n → SqL (K w.params) H a (ns.map V.int) → sp w [.ref a] H (fun v _ => v = .bl true) fun _ _ _ => False) :
    PySem.W.WalkO q loose XP YP l.row.toRowW d [] (fun f vs => PySem.call f vs) := by
  refine Att.attach_call hn hdf fun w s₀ s₁ mg mb fa o pm cd doc a vs ns G Y ho hd hcd hmg hobj hints hlen hg => ?_
  obtain ⟨fd, hb, hF⟩ := F w mg fa _ (hY w _ Y) G.T.g hmg
  exact callG (hY w _ Y) G.T.g G.T.b G.T.builtins G.T.nolimit hg hobj hints hlen hn2 hr hF hb (fun H _ hS => hsp w H a ns hlen hS) fun _ _ _ z => z
end Wq
set_option Elab.async false
set_option linter.all false
set_option maxRecDepth 100000
set_option maxHeartbeats 2000000
namespace Wq
open PySem PySem.Spec PyProof.Rows L2
open SX (S S_len S_cat S_beq_eq)
/-- the written facts of an error with two fields -/
structure ErrW (K : PySem.W.Frag) (mg : Str → Option Value) (CE : Addr) (x f1 f2 : Str) : Prop where
  ox : OexC K CE
  n1 : PySem.W.findIn K (.ref CE) f1 = some none
  n2 : PySem.W.findIn K (.ref CE) f2 = some none
  gC : mg x = some (.ref CE)
  xf : XfC K CE
  te : PySem.W.exmOne K (.ref CE) (.ref CE) = some true
theorem ErrW.txt {K : PySem.W.Frag} {mg : Str → Option Value} {CE f : Addr} {x f1 f2 : Str} (E : ErrW K mg CE x f1 f2) (M : Meth K CE "__init__" f) : TxtE K mg CE f x f1 f2 := ⟨E.ox, E.n1, E.n2, M.at_, beq_iff_eq.mp M.fn, E.gC, E.xf, E.te⟩
section
variable {K : PySem.W.Frag} {n a b c d e : Addr} {od : Option Addr} {m : Nat} {sl : Array (Option Value)} {i j : Int} {t1 t2 t3 : Tok} {x y z : Str}
theorem st0 (l : K.lookup n = some ⟨.type "tuple", od, .seq #[] m, sl⟩) : StT K n [] := ⟨_, _, _, l, rfl, rfl, by decide, .nil⟩
theorem stI (l : K.lookup n = some ⟨.type "tuple", od, .seq #[.int i t1, .int j t2] m, sl⟩) : StT K n [.int i, .int j] := ⟨_, _, _, l, rfl, rfl, by show 2 ≤ sizeLine; decide, .cons ⟨_, rfl⟩ (.cons ⟨_, rfl⟩ .nil)⟩
theorem stR (l : K.lookup n = some ⟨.type "tuple", od, .seq #[.ref a, .ref b] m, sl⟩) : StT K n [.ref a, .ref b] := ⟨_, _, _, l, rfl, rfl, by show 2 ≤ sizeLine; decide, .cons rfl (.cons rfl .nil)⟩
theorem stB (l : K.lookup n = some ⟨.type "tuple", od, .seq #[.str x t1, .ref a] m, sl⟩) {w : List Nat} (h : x = S w) : StT K n [.str (S w), .ref a] := by
  subst h
  exact ⟨_, _, _, l, rfl, rfl, by show 2 ≤ sizeLine; decide, .cons ⟨_, rfl⟩ (.cons rfl .nil)⟩
theorem stH (l : K.lookup n = some ⟨.type "tuple", od, .seq #[.str x t1, .ref a, .str y t2] m, sl⟩) {w v : List Nat} (h : x = S w) (h' : y = S v) : StT K n [.str (S w), .ref a, .str (S v)] := by
  subst h h'
  exact ⟨_, _, _, l, rfl, rfl, by show 3 ≤ sizeLine; decide, .cons ⟨_, rfl⟩ (.cons rfl (.cons ⟨_, rfl⟩ .nil))⟩
theorem stE (l : K.lookup n = some ⟨.type "tuple", od, .seq #[.str x t1, .ref a, .str y t2, .ref b, .str z t3] m, sl⟩) {w v u : List Nat} (h : x = S w) (h' : y = S v) (h'' : z = S u) : StT K n [.str (S w), .ref a, .str (S v), .ref b, .str (S u)] := by
  subst h h' h''
  exact ⟨_, _, _, l, rfl, rfl, by show 5 ≤ sizeLine; decide, .cons ⟨_, rfl⟩ (.cons rfl (.cons ⟨_, rfl⟩ (.cons rfl (.cons ⟨_, rfl⟩ .nil))))⟩
end
theorem forms_mk {K : PySem.W.Frag} {mg : Str → Option Value} {b b0 b1 n0 n1 e e0 e1 n2 n3 h h0 h1 n4 : Addr} (g1 : mg "BLOCKS" = some (.ref b)) (g2 : mg "EXCEPTIONS" = some (.ref e)) (g3 : mg "HEADS" = some (.ref h))
    (s1 : StT K b [.ref b0, .ref b1]) (s2 : StT K b0 [.str (S (cBlk false)), .ref n0]) (s3 : StT K b1 [.str (S (cBlk true)), .ref n1]) (s4 : StT K n0 [.int 1, .int 16]) (s5 : StT K n1 [.int 1, .int 16])
    (u1 : StT K e [.ref e0, .ref e1]) (u2 : StT K e0 []) (u3 : StT K e1 [.str (S cExc), .ref n2, .str (S cOf), .ref n3, .str (S cBits)]) (u4 : StT K n2 [.int 1, .int 4]) (u5 : StT K n3 [.int 1, .int 24])
    (v1 : StT K h [.ref h0, .ref h1]) (v2 : StT K h0 []) (v3 : StT K h1 [.str (S cHead), .ref n4, .str (S cBits)]) (v4 : StT K n4 [.int 0, .int 64]) : Forms K mg :=
  ⟨b, b0, b1, n0, n1, e, e0, e1, n2, n3, h, h0, h1, n4, g1, s1, s2, s3, s4, s5, g2, u1, u2, u3, u4, u5, g3, v1, v2, v3, v4⟩
theorem all_mk {l : PySem.W.OpenLaw} {w : World} {K : PySem.W.Frag} {h : Heap} {mg : Str → Option Value} {fa C CE : Addr} (X : K.In h) (G : h.Ns mainGlobals mg) (hfa : mg "law" = some (.ref fa))
    (T : Txt K mg) (TT : TxtT mg) (TX : TxtL K mg C) (FM : Forms K mg) (mkc : PySem.W.makesIn K C = true) (kp : PySem.W.keepIn K (.ref C) = true) (WN : ErrW K mg CE "BadNumber" "what" "number")
    (d7 : DefAt K mg "number_of" sNF) (d13 : DefAt K mg "read_layout" sRL) (d14 : DefAt K mg "told_layout" sTL) (d15 : DefAt K mg "read_form" sRF) (d16 : DefAt K mg "is_beginning" sIB) (d20 : DefAt K mg "weight_of_widths" sWW) (d21 : DefAt K mg "free_cuts" sFC)
    (d23 : DefAt K mg "_law_pen" sPen) (d24 : DefAt K mg "_law_draw" sDraw) (d25 : DefAt K mg "_law_pick" sPick) (d26 : DefAt K mg "_law_parts" sLP) (d27 : DefAt K mg "_law_parts_text" sPT) (d28 : DefAt K mg "_law_head" sLh) (d29 : DefAt K mg "_law_width" sLw)
    (d30 : DefAt K mg "_law_weight" sLW) (d31 : DefAt K mg "_law_cuts" sLC) (d32 : DefAt K mg "_law_steps" sLS) (d33 : DefAt K mg "_law_all_cuts" sAC) (d34 : DefAt K mg "_law_least_cuts" sLe) (d35 : DefAt K mg "_law_refused" sRd)
    (d36 : DefAt K mg "_law_is_right" sIR) (d37 : DefAt K mg "_law_is_long_right" sLR) (d38 : DefAt K mg "law" sLaw)
    (n0 : MAt K CE "__init__" "BadNumber.__init__" sNI) (m0 : MAt K C "__init__" "Layout.__init__" sLI) (m2 : MAt K C "block_weight" "Layout.block_weight" sBW) (m3 : MAt K C "cuts" "Layout.cuts" sCu) (m4 : MAt K C "total" "Layout.total" sTo) :
    ∃ fd : FuncData, (∀ (s : Shared) (v : Value), BindsTo s fd ⟨[v], []⟩ [("_law_script", v)]) ∧ ∀ base : Heap, K.In base → base.Ns mainGlobals mg → FnG l.prog w K mg base CX0 8 fa fd ["_law_script"] (spLaw K) := by
  obtain ⟨f, fd, F, hm⟩ := d38.ex
  have e := hfa.symm.trans hm
  cases e
  obtain ⟨oc, od, kV, doc, pm, an, cdv, ct, osl, rfl, lk, hcd⟩ := F.ex
  refine ⟨PySem.W.fnOf "law" "law" (defArgs sLaw) (defBody sLaw) (defScope sLaw) .none kV doc pm an cdv ct, fun s v => .of_eq rfl, fun base _ _ => ?_⟩
  have CD := ok_draw (P := l.prog) (w := w) (base := base) d24 T
  have CP := ok_pick (P := l.prog) (w := w) (base := base) d25 T CD
  obtain ⟨fN, fdN, FN, MN⟩ := n0.ex
  have TE := WN.txt MN
  have GN := ok_NI (P := l.prog) (w := w) (base := base) (mg := mg) FN TE
  have bN := FN.binds (ps := ["self", "what", "number"]) fun _ _ _ _ _ _ us hl => match us, hl with | [_, _, _], _ => rfl
  have CNF := ok_NF (P := l.prog) (w := w) (base := base) d7 T TT
  have CIB := ok_IB (P := l.prog) (w := w) (base := base) d16 T TT CNF
  have CRF := ok_RF (P := l.prog) (w := w) (base := base) d15 T TX CNF CIB
  have CTL := ok_TL (P := l.prog) (w := w) (base := base) d14 T
  have CRL := ok_RL (P := l.prog) (w := w) (base := base) d13 T TX FM CRF CTL
  have CWW := ok_WW (P := l.prog) (w := w) (base := base) d20 T TX
  obtain ⟨f0, fd0, F0, M0⟩ := m0.ex
  obtain ⟨f2, fd2, F2, M2⟩ := m2.ex
  obtain ⟨f3, fd3, F3, M3⟩ := m3.ex
  obtain ⟨f4, fd4, F4, M4⟩ := m4.ex
  have b0 := F0.binds (ps := ["self", "text"]) fun _ _ _ _ _ _ us hl => match us, hl with | [_, _], _ => rfl
  have b2 := F2.binds (ps := ["self", "steps"]) fun _ _ _ _ _ _ us hl => match us, hl with | [_, _], _ => rfl
  have b3 := F3.binds (ps := ["self", "steps"]) fun _ _ _ _ _ _ us hl => match us, hl with | [_, _], _ => rfl
  have b4 := F4.binds (ps := ["self", "steps"]) fun _ _ _ _ _ _ us hl => match us, hl with | [_, _], _ => rfl
  have G0 := ok_LI (P := l.prog) (w := w) (base := base) F0 TX CRL
  have G2 := ok_BW (P := l.prog) (w := w) (base := base) F2 T TX TE GN bN CWW
  have CFC := ok_FC (P := l.prog) (w := w) (base := base) d21 T TX M2 G2 b2
  have G3 := ok_Cu (P := l.prog) (w := w) (base := base) F3 T TX CFC
  have G4 := ok_To (P := l.prog) (w := w) (base := base) F4 T TX M3 G3 b3 M2 G2 b2
  have LM : LyM l.prog w K mg base C CE := ⟨⟨_, _, ⟨mkc, M0.at_, M0.fn, kp⟩, G0, b0⟩, ⟨_, _, M2, G2, b2⟩, ⟨_, _, M3, G3, b3⟩, ⟨_, _, M4, G4, b4⟩⟩
  have CH := ok_Lh (P := l.prog) (w := w) (base := base) d28
  have CW := ok_LW (P := l.prog) (w := w) (base := base) d30 T TX CH
  have CLw := ok_Lw (P := l.prog) (w := w) (base := base) d29 T
  have CLC := ok_LC (P := l.prog) (w := w) (base := base) d31 T CW
  have CAC := ok_AC (P := l.prog) (w := w) (K := K) (base := base) d33 T
  have CLe := ok_Le (P := l.prog) (w := w) (base := base) d34 T CW CAC
  have CRd := ok_Rd (P := l.prog) (w := w) (base := base) d35 TX TE M2 G2 b2
  have CPT := ok_PT (P := l.prog) (w := w) (base := base) d27 T TX
  obtain ⟨f36, fd36, F36, h36⟩ := d36.ex
  obtain ⟨f37, fd37, F37, h37⟩ := d37.ex
  have GR : ClG l.prog w K mg base 7 "_law_is_right" (spIR K) := ⟨_, _, _, ok_IR F36 T TX LM CPT CLw CW CLC CLe CRd, h36, F36.kp, F36.binds (ps := ["_law_parts_here", "_law_steps_here"]) fun _ _ _ _ _ _ us hl => match us, hl with | [_, _], _ => rfl⟩
  have GL : ClG l.prog w K mg base 7 "_law_is_long_right" spLR := ⟨_, _, _, ok_LR F37 T TX LM CD CP, h37, F37.kp, F37.binds (ps := ["_law_pen_here"]) fun _ _ _ _ _ _ us hl => match us, hl with | [_], _ => rfl⟩
  exact ok_law F T (ok_pen d23 T) CD CP (ok_LP d26 CD CP) (ok_LS d32 T CD CP) GR GL
theorem walk {l : PySem.W.OpenLaw} {q : Program} {loose : List Str} {XP : (Str → Option Value) → Heap → Prop} {YP : World → Heap → Prop} {d : DefRec} {K : Params → PySem.W.Frag} (hn : l.most = some 63) (hdf : d.params.defaults = [])
    (hY : ∀ (w : World) (h : Heap), YP w h → (K w.params).In h)
    (F : ∀ (w : World) (mg : Str → Option Value) (fa : Addr) (h : Heap), (K w.params).In h → h.Ns mainGlobals mg → mg d.name = some (.ref fa) →
      ∃ fd : FuncData, (∀ (s : Shared) (u : Value), BindsTo s fd ⟨[u], []⟩ [("_law_script", u)]) ∧ ∀ base : Heap, (K w.params).In base → base.Ns mainGlobals mg → FnG l.prog w (K w.params) mg base CX0 8 fa fd ["_law_script"] (spLaw (K w.params))) :
    PySem.W.WalkO q loose XP YP l.row.toRowW d [] (fun f vs => PySem.call f vs) :=
  walkG (n := 63) (k := 8) (x := "_law_script") (sp := fun w => spLaw (K w.params)) hn (by decide) hdf ⟨rfl, by decide, by decide⟩ hY F (fun _ _ a ns hl hS => ⟨a, ns, rfl, hS, fun _ => rfl⟩)
end Wq
set_option Elab.async false
set_option linter.all false
set_option maxRecDepth 100000
set_option maxHeartbeats 2000000
namespace Wq
open PySem PySem.Spec PyProof.Rows L2
theorem oex_mk {K : PySem.W.Frag} {C : Addr} {nm q : Str} {N : Addr} {bs bm : List Value} {sn : List Str} {sub : List Value} {ab : Bool} {col : Option Bool} {dd : Option Addr} {k0 k1 k2 k3 k5 : Option Value}
    (xL : K.lookup C = some (excClassObj nm q C N bs bm true sn sub ab col dd k0 k1 k2 k3 k5 "ValueError.__new__")) (rv : PySem.HandSPX.refsVE bm = true) (sa : PySem.W.findIn K (.ref C) "__setattr__" = some (some (.builtin "object.__setattr__")))
    (eC : PySem.W.subIn K (.ref C) (.type "BaseException") = some true) (tC : PySem.W.typeIn K (.ref C) = some (.type "type")) (kC : PySem.W.keepIn K (.ref C) = true) : OexC K C := ⟨⟨nm, q, N, bs, bm, sn, sub, ab, col, dd, k0, k1, k2, k3, k5, xL, rv⟩, sa, eC, tC, kC⟩
end Wq
open PySem PySem.W PyProof.Rows
set_option maxRecDepth 100000 in
set_option maxHeartbeats 0 in
theorem PySem.Challenge.cw_wordquarry_k34_whole_weights_and_cuts_holds : PySem.Challenge.rw_wordquarry_k34_whole_weights_and_cuts.Holds := by
  w_on; o_law; k_head; (case hw => w_witness2)
  k_fill
  refine Wq.walk (l := PySem.Challenge.rw_wordquarry_k34_whole_weights_and_cuts) rfl rfl (fun w h Y => PySem.W.kIn_of Y) ?F
  case F =>
    intro w mg fa h KX G hmg
    refine' Wq.all_mk KX G hmg
      ⟨PySem.W.mg_none_of KX G ?z1, PySem.W.mg_none_of KX G ?z2, PySem.W.mg_none_of KX G ?z3, PySem.W.mg_none_of KX G ?z4, PySem.W.mg_none_of KX G ?z5, PySem.W.mg_none_of KX G ?z6⟩
      ⟨⟨_, PySem.W.mg_of KX G ?s1⟩, ⟨_, PySem.W.mg_of KX G ?s2⟩⟩
      ⟨⟨?c_pg, ?c_hd, ?c_po, ?c_sa⟩, ?c_n1, ?c_n2, ?c_n3, ?c_n4, ?c_n5, ?c_n6, PySem.W.mg_of KX G ?gC, PySem.W.mg_none_of KX G ?y1, PySem.W.mg_none_of KX G ?y2, PySem.W.mg_none_of KX G ?y3, PySem.W.mg_none_of KX G ?y4, PySem.W.mg_none_of KX G ?y5⟩
      (Wq.forms_mk (PySem.W.mg_of KX G ?gB) (PySem.W.mg_of KX G ?gE) (PySem.W.mg_of KX G ?gH) (Wq.stR ?f1) (Wq.stB ?f2 ?x1) (Wq.stB ?f3 ?x2) (Wq.stI ?f4) (Wq.stI ?f5) (Wq.stR ?f6) (Wq.st0 ?f7) (Wq.stE ?f8 ?x3 ?x4 ?x5) (Wq.stI ?f9) (Wq.stI ?f10) (Wq.stR ?f11) (Wq.st0 ?f12) (Wq.stH ?f13 ?x6 ?x7) (Wq.stI ?f14))
      ?w_mk ?w_kp
      ⟨Wq.oex_mk ?nxL ?nrv ?n_sa ?n_ex ?n_ty ?n_kp, ?n_n1, ?n_n2, PySem.W.mg_of KX G ?ng, ⟨?nx_ga, ?nx_gg, ?nx_ex, ?nx_hd⟩, PySem.W.exm_ref ?nm_ex ?nm_hd ?nm_ty ?nm_su⟩
      ?d7 ?d13 ?d14 ?d15 ?d16 ?d20 ?d21 ?d23 ?d24 ?d25 ?d26 ?d27 ?d28 ?d29 ?d30 ?d31 ?d32 ?d33 ?d34 ?d35 ?d36 ?d37 ?d38 ?n0 ?m0 ?m2 ?m3 ?m4
    (case gC => k_is)
    (case ng => k_is)
    (case gB => k_is)
    (case gE => k_is)
    (case gH => k_is)
    (case f1 => first | k_is | rfl)
    (case f2 => first | k_is | rfl)
    (case f3 => first | k_is | rfl)
    (case f4 => first | k_is | rfl)
    (case f5 => first | k_is | rfl)
    (case f6 => first | k_is | rfl)
    (case f7 => first | k_is | rfl)
    (case f8 => first | k_is | rfl)
    (case f9 => first | k_is | rfl)
    (case f10 => first | k_is | rfl)
    (case f11 => first | k_is | rfl)
    (case f12 => first | k_is | rfl)
    (case f13 => first | k_is | rfl)
    (case f14 => first | k_is | rfl)
    (case x1 => first | decide +kernel | rfl)
    (case x2 => first | decide +kernel | rfl)
    (case x3 => first | decide +kernel | rfl)
    (case x4 => first | decide +kernel | rfl)
    (case x5 => first | decide +kernel | rfl)
    (case x6 => first | decide +kernel | rfl)
    (case x7 => first | decide +kernel | rfl)
    (case d7 => (refine' Wq.def_mk KX G ?a ?l ?c ?k; (case a => k_is); (case l => k_is); (case c => k_is); (case k => k_is)))
    (case d13 => (refine' Wq.def_mk KX G ?a ?l ?c ?k; (case a => k_is); (case l => k_is); (case c => k_is); (case k => k_is)))
    (case d14 => (refine' Wq.def_mk KX G ?a ?l ?c ?k; (case a => k_is); (case l => k_is); (case c => k_is); (case k => k_is)))
    (case d15 => (refine' Wq.def_mk KX G ?a ?l ?c ?k; (case a => k_is); (case l => k_is); (case c => k_is); (case k => k_is)))
    (case d16 => (refine' Wq.def_mk KX G ?a ?l ?c ?k; (case a => k_is); (case l => k_is); (case c => k_is); (case k => k_is)))
    (case d20 => (refine' Wq.def_mk KX G ?a ?l ?c ?k; (case a => k_is); (case l => k_is); (case c => k_is); (case k => k_is)))
    (case d21 => (refine' Wq.def_mk KX G ?a ?l ?c ?k; (case a => k_is); (case l => k_is); (case c => k_is); (case k => k_is)))
    (case d23 => (refine' Wq.def_mk KX G ?a ?l ?c ?k; (case a => k_is); (case l => k_is); (case c => k_is); (case k => k_is)))
    (case d24 => (refine' Wq.def_mk KX G ?a ?l ?c ?k; (case a => k_is); (case l => k_is); (case c => k_is); (case k => k_is)))
    (case d25 => (refine' Wq.def_mk KX G ?a ?l ?c ?k; (case a => k_is); (case l => k_is); (case c => k_is); (case k => k_is)))
    (case d26 => (refine' Wq.def_mk KX G ?a ?l ?c ?k; (case a => k_is); (case l => k_is); (case c => k_is); (case k => k_is)))
    (case d27 => (refine' Wq.def_mk KX G ?a ?l ?c ?k; (case a => k_is); (case l => k_is); (case c => k_is); (case k => k_is)))
    (case d28 => (refine' Wq.def_mk KX G ?a ?l ?c ?k; (case a => k_is); (case l => k_is); (case c => k_is); (case k => k_is)))
    (case d29 => (refine' Wq.def_mk KX G ?a ?l ?c ?k; (case a => k_is); (case l => k_is); (case c => k_is); (case k => k_is)))
    (case d30 => (refine' Wq.def_mk KX G ?a ?l ?c ?k; (case a => k_is); (case l => k_is); (case c => k_is); (case k => k_is)))
    (case d31 => (refine' Wq.def_mk KX G ?a ?l ?c ?k; (case a => k_is); (case l => k_is); (case c => k_is); (case k => k_is)))
    (case d32 => (refine' Wq.def_mk KX G ?a ?l ?c ?k; (case a => k_is); (case l => k_is); (case c => k_is); (case k => k_is)))
    (case d33 => (refine' Wq.def_mk KX G ?a ?l ?c ?k; (case a => k_is); (case l => k_is); (case c => k_is); (case k => k_is)))
    (case d34 => (refine' Wq.def_mk KX G ?a ?l ?c ?k; (case a => k_is); (case l => k_is); (case c => k_is); (case k => k_is)))
    (case d35 => (refine' Wq.def_mk KX G ?a ?l ?c ?k; (case a => k_is); (case l => k_is); (case c => k_is); (case k => k_is)))
    (case d36 => (refine' Wq.def_mk KX G ?a ?l ?c ?k; (case a => k_is); (case l => k_is); (case c => k_is); (case k => k_is)))
    (case d37 => (refine' Wq.def_mk KX G ?a ?l ?c ?k; (case a => k_is); (case l => k_is); (case c => k_is); (case k => k_is)))
    (case d38 => (refine' Wq.def_mk KX G ?a ?l ?c ?k; (case a => k_is); (case l => k_is); (case c => k_is); (case k => k_is)))
    (case n0 => (refine' Wq.m_mk ?a ?i ?l ?c ?k; (case a => k_is); (case i => k_is); (case l => k_is); (case c => k_is); (case k => k_is)))
    (case m0 => (refine' Wq.m_mk ?a ?i ?l ?c ?k; (case a => k_is); (case i => k_is); (case l => k_is); (case c => k_is); (case k => k_is)))
    (case m2 => (refine' Wq.m_mk ?a ?i ?l ?c ?k; (case a => k_is); (case i => k_is); (case l => k_is); (case c => k_is); (case k => k_is)))
    (case m3 => (refine' Wq.m_mk ?a ?i ?l ?c ?k; (case a => k_is); (case i => k_is); (case l => k_is); (case c => k_is); (case k => k_is)))
    (case m4 => (refine' Wq.m_mk ?a ?i ?l ?c ?k; (case a => k_is); (case i => k_is); (case l => k_is); (case c => k_is); (case k => k_is)))
    (case nxL => first | k_is | rfl)
    (case nrv => first | rfl | decide +kernel)
    (case z1 => first | k_is | rfl)
    (case z2 => first | k_is | rfl)
    (case z3 => first | k_is | rfl)
    (case z4 => first | k_is | rfl)
    (case z5 => first | k_is | rfl)
    (case z6 => first | k_is | rfl)
    (case y1 => first | k_is | rfl)
    (case y2 => first | k_is | rfl)
    (case y3 => first | k_is | rfl)
    (case y4 => first | k_is | rfl)
    (case y5 => first | k_is | rfl)
    (case s1 => first | k_is | rfl)
    (case s2 => first | k_is | rfl)
    (case c_pg => first | k_is | rfl)
    (case c_hd => first | k_is | rfl)
    (case c_po => first | k_is | rfl)
    (case c_sa => first | k_is | rfl)
    (case c_n1 => first | k_is | rfl)
    (case c_n2 => first | k_is | rfl)
    (case c_n3 => first | k_is | rfl)
    (case c_n4 => first | k_is | rfl)
    (case c_n5 => first | k_is | rfl)
    (case c_n6 => first | k_is | rfl)
    (case w_mk => first | k_is | rfl)
    (case w_kp => first | k_is | rfl)
    (case n_sa => first | k_is | rfl)
    (case n_ex => first | k_is | rfl)
    (case n_ty => first | k_is | rfl)
    (case n_kp => first | k_is | rfl)
    (case n_n1 => first | k_is | rfl)
    (case n_n2 => first | k_is | rfl)
    (case nx_ga => first | k_is | rfl)
    (case nx_gg => first | k_is | rfl)
    (case nx_ex => first | k_is | rfl)
    (case nx_hd => first | k_is | rfl)
    (case nm_ex => first | k_is | rfl)
    (case nm_hd => first | k_is | rfl)
    (case nm_ty => first | k_is | rfl)
    (case nm_su => first | k_is | rfl)
