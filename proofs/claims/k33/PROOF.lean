import PyProof.Rows.All
import Wide.All
import OpenK.AllK
import Wide.FinOn
import HandS.Base
import HandS.Call
import HandS.List
import HandS.Ends
import HandS.Words
import HandS.Dict
import HandS.Comp
import HandS.Iter
import HandS.Text
import HandS.WordsList
import HandS.Codes
import HandS.Style
import HandS.Wide
import HandS.SortKw
import HandS.WideBits
import HandS.DeepEq
import HandS.NoneIn
import HandS.Walk
import KE.LtData
import HandS.ExcInit
import HandS.ExcField
import HandS.ExcIs
import HandS.ExcValue
import HandS.ExcOwn
import HandS.IsInst
import HandS.WordsExc
import HandS.TupAny
import KE.KExcIs
import HandS.StrMore
import HandS.OwnEq
import PyProof.ListStr
import PyProof.StrLawsRepr
import PySem.Challenge.RW_wordquarry_k33_texts_of_layouts
set_option Elab.async false
set_option linter.all false
set_option maxRecDepth 100000
set_option maxHeartbeats 2000000
/-! promises of defs that are called where nothing is being shown (repr is known there) -/
namespace Wq
open PySem PySem.Spec PyProof.Rows L2
structure FnG (P : Program) (w : World) (K : PySem.W.Frag) (mg : Str → Option Value) (base : Heap) (CX : CXT) (k : Nat) (f : Addr) (fd : FuncData) (ps : List Str) (sp : Sp) : Prop where
  len : ∀ vs H Q E, sp vs H Q E → vs.length = ps.length
  go : ∀ (A : Around), Room k A → A.guards = some [] → ∀ (outer : List Env) (s : Shared) (H : Hp) (args : Args) (us : List Value) (vs : List V) (Q : VK) (E : XK), Env0 P w K mg base A outer s H → BindsTo s fd args (ps.zip us) → Vals vs us → sp vs H Q E → codeAny (model P w) A (.call (.ref f) args) (CR CX outer P w H s Q E) s
section
variable {P : Program} {w : World} {K : PySem.W.Frag} {mg : Str → Option Value} {base : Heap} {CX : CXT} {k : Nat} {f : Addr} {fd : FuncData} {ps : List Str} {sp : Sp}
theorem FnG.of (F : FnOk P w K mg base CX k f fd ps sp) : FnG P w K mg base CX k f fd ps sp := ⟨F.len, fun A hr _ outer s H args us vs Q E => F.run A outer s H args us vs Q E hr⟩
theorem FnG.mono {j : Nat} (F : FnG P w K mg base CX j f fd ps sp) (h : j ≤ k) : FnG P w K mg base CX k f fd ps sp := ⟨F.len, fun A hr hg => F.go A (hr.mono h) hg⟩
end
theorem deep_g {A : Around} {e : Env} (h : A.guards = some []) : (A.deeper e).guards = some [] := h
/-- a def by its body, where nothing is being shown -/
theorem fnG_of {CX : CXT} {P : Program} {w : World} {K : PySem.W.Frag} {mg : Str → Option Value} {base : Heap} {k : Nat} {f : Addr} {x qual : Str} {pm : Arguments} {body : List Stmt} {sc : Scope} {dV kV doc pv cdv ct oc : Value} {an od : Option Addr} {osl : Array (Option Value)} {N ps : List Str} {sp : Sp}
    (lk : K.lookup f = some ⟨oc, od, .func (PySem.W.fnOf x qual pm body sc dV kV doc pv an cdv ct), osl⟩) (hcd : PySem.W.codeIn K cdv qual = true) (S : FnScope N ps sc) (len : ∀ vs H Q E, sp vs H Q E → vs.length = ps.length)
    (hbody : ∀ (A : Around), A.guards = some [] → ∀ (outer : List Env) (s : Shared) (H : Hp) (vs : List V) (Q : VK) (E : XK), Room k (A.deeper (envOfC qual sc s.heap.objs.size f cdv)) → sp vs H Q E →
      ∃ t, PSs (cxOf CX P w K mg base N qual sc f cdv A outer s H E) body t ∧ t { nx := fun _ H' => Q .non H', rt := Q } (start N vs) H) :
    FnG P w K mg base CX (k + 1) f (PySem.W.fnOf x qual pm body sc dV kV doc pv an cdv ct) ps sp := by
  refine ⟨len, fun A hr hg outer s H args us vs Q E e0 hb r hsp => ?_⟩
  obtain ⟨t, ht, hq⟩ := hbody A hg outer s H vs Q E (hr.deeper _) hsp
  have up : ∀ b o, base.get? b = some o → s.heap.get? b = some o := fun b o e => (e0.bs b o e).1
  have KX : K.In s.heap := e0.mod.kin.keeps up
  have kinds : ∀ y ∈ ps.zip us, sc.names.lookup y.1 = some .local ∨ (sc.names.lookup y.1 = some .cell ∧ ((cellsFrom (s.heap.objs.size + 1) sc.names []).lookup y.1).isSome = true) := by
    rintro ⟨n, v⟩ hy
    exact (S.par n (List.of_mem_zip hy).1).imp id fun q => ⟨q, PySem.W.cellsFrom_some _ _ _ (.inl q)⟩
  refine codeAny_call_function hr.depth (KX _ _ lk) rfl S.co S.gen rfl (PySem.W.codeRec_of KX hcd) (hb _ _ _ _ (wpAny_newFunctionEnv_cells S.kind kinds fun env he s1 x => ?_))
  subst he
  refine ⟨(e0.mod.nolimit.keeps up).keeps x.toInCall.keep, codeAny_func ?_⟩
  refine wpAny_mono (ht.run [] s1 (start N vs) H _ (inv_start S hr.hd e0 (len _ _ _ _ hsp) r x) hq) (fun fl s' hs => ?_) fun _ _ hs => hs
  cases fl with
  | brk => obtain ⟨_, _, _, q⟩ := hs; exact q.elim
  | cont => obtain ⟨_, _, _, q⟩ := hs; exact q.elim
  | next =>
    obtain ⟨σ', H', J, q⟩ := hs
    exact ⟨.non, H', J.os, J.bare, J.base, J.hok, rfl, q⟩
  | ret u =>
    obtain ⟨v, σ', H', J, rv, q⟩ := hs
    exact ⟨v, H', J.os, J.bare, J.base, J.hok, rv, q⟩
section
variable {X : Cx} {CX : CXT} {k : Nat} {f : Addr} {fd : FuncData} {ps : List Str} {sp : Sp} {ds : List Value} {dvs : List V} {E : XK} {x : Str} {p pos : Pos} {e : Expr} {es : List Expr} {t : TA}
theorem run_g {pins : List (Addr × Obj)} {σ : L2.St} {H : Hp} {s : Shared} {Q : VK} {us : List Value} {vs : List V} (F : FnG X.prog X.w X.K X.mg X.base CX k f fd ps sp) (hr : Room k X.A) (hG : X.A.guards = some []) (hb : Binds X.K fd ps ds) (hd : Vals dvs ds) (hx : Passes CX X E)
    (I : Inv X pins σ H s) (r : Vals vs us) (h : sp (vs ++ dvs) H Q E) : wpAny (model X.prog X.w) X.A (call (.ref f) us) (EP X pins σ Q) X.xe s := by
  have r2 := r.append hd
  have hl : (us ++ ds).length = ps.length := r2.length.symm.trans (F.len _ _ _ _ h)
  refine wpAny_call (codeAny_mono (F.go X.A hr hG X.stack s H ⟨us, []⟩ _ _ Q E I.env0 (hb s us I.kIn hl) r2 h) fun r s' hq => ?_)
  match r, hq with
  | .error e, hq => exact hx pins σ H s e s' I hq
  | .ok (.ret u), hq => exact I.after hq
theorem pe_callG (F : FnG X.prog X.w X.K X.mg X.base CX k f fd ps sp) (hr : Room k X.A) (hG : X.A.guards = some []) (hg : Gl X x) (hm : X.mg x = some (.ref f)) (hk : PySem.W.keepIn X.K (.ref f) = true) (hb : Binds X.K fd ps ds) (hd : Vals dvs ds) (hx : Passes CX X E) (ha : PA X (e :: es) t)
    (hdb : (x == ("__debug__" : Str)) = false := by decide) (he : starEach (e :: es) X.env = (false, eval e X.env) :: starEach es X.env := by rfl) (hpl : (backTo pos (starEach es X.env)).any (·.1) = false := by rfl) : PE X (.Call (.Name x p) (e :: es) [] pos) (tCall sp dvs E t) :=
  ⟨fun pins s σ H Q I h => wpAny_Call_Name_kw (ld_glob I hg hm (PySem.W.callWith_K (h₀ := X.base) I.ok.mod.kin hk (thn (ha.run pos pins s σ H _ I h) fun us s1 ⟨vs, H1, I1, r, q⟩ => ⟨I1.kIn, run_g F hr hG hb hd hx I1 r q⟩) he hpl) hdb)⟩
end
end Wq
set_option Elab.async false
set_option linter.all false
set_option maxRecDepth 100000
set_option maxHeartbeats 2000000
/-! repr where nothing is being shown: flat values, {}, lists and tuples of them, two deep -/
namespace Wq
open PySem PySem.Spec PyProof.Rows L2
mutual
/-- what a value shows -/
inductive Sh (K : PySem.W.Frag) (H : Hp) : V → PyData → Prop
  | non : Sh K H .non .none
  | bl (b : Bool) : Sh K H (.bl b) (.bool b)
  | int (i : Int) : Sh K H (.int i) (.int i)
  | str (x : Str) : Sh K H (.str x) (.str x)
  | emp {a : Addr} : H a = some (.dK []) → Sh K H (.ref a) (.dict [])
  | lst {a : Addr} {xs : List V} {ds : List PyData} : SqL K H a xs → a ≠ sysModules → ShAll K H xs ds → Sh K H (.ref a) (.list ds)
  | tup {a : Addr} {xs : List V} {ds : List PyData} : SqT K H a xs → ShAll K H xs ds → Sh K H (.ref a) (.tuple ds)
inductive ShAll (K : PySem.W.Frag) (H : Hp) : List V → List PyData → Prop
  | nil : ShAll K H [] []
  | cons {v : V} {vs : List V} {d : PyData} {ds : List PyData} : Sh K H v d → ShAll K H vs ds → ShAll K H (v :: vs) (d :: ds)
end
section
variable {X : Cx} {pins : List (Addr × Obj)} {σ : L2.St} {H : Hp} {s : Shared}
mutual
theorem Sh.reads (I : Inv X pins σ H s) : ∀ (d : PyData) (v : V) (u : Value), Sh X.K H v d → RelV v u → ∃ as, Reads s.heap u d as ∧ sysModules ∉ as
  | .none, _, _, h, r => by
    cases h; cases r
    exact ⟨_, .none, by simp⟩
  | .bool b, _, _, h, r => by
    cases h; cases r
    exact ⟨_, .bool b, by simp⟩
  | .int i, _, _, h, r => by
    cases h
    obtain ⟨t, rfl⟩ := r
    exact ⟨_, .int i t, by simp⟩
  | .str x, _, _, h, r => by
    cases h
    obtain ⟨t, rfl⟩ := r
    exact ⟨_, .str x t, by simp⟩
  | .list ds, _, _, h, r => by
    cases h with
    | lst hs na ha =>
      cases r
      obtain ⟨its, rv, ⟨o, n, ho, hc, _, hd⟩, _⟩ := I.list hs
      obtain ⟨as, hr, hn⟩ := Sh.readsAll I ds _ its ha rv
      refine ⟨_, .list ho hc hd hr, fun z => ?_⟩
      rcases List.mem_cons.mp z with e | e
      · exact na e.symm
      · exact hn e
  | .tuple ds, _, _, h, r => by
    cases h with
    | tup hs ha =>
      cases r
      obtain ⟨its, rv, ⟨o, ho, hc, n, hd⟩, _⟩ := I.tuple hs
      obtain ⟨as, hr, hn⟩ := Sh.readsAll I ds _ its ha rv
      exact ⟨_, .tuple ho hc hd hr, hn⟩
  | .dict kvs, _, _, h, r => by
    cases h with
    | @emp a he =>
      cases r
      obtain ⟨_, hs, vs, kv, o, es, ep, ho, hx, hd, _, hp, _⟩ := I.hok a _ he
      cases kv
      cases hl : es.toList with
      | cons e l =>
        rw [hl] at hp
        cases hp
      | nil =>
        refine ⟨_, .dict ho hx.1 hd (as := []) (bs := []) (by rw [hl]; exact .nil) (by rw [hl]; exact .nil), fun z => ?_⟩
        have z : sysModules = a := by simpa using z
        rw [← z] at hs
        simp at hs
theorem Sh.readsAll (I : Inv X pins σ H s) : ∀ (ds : List PyData) (vs : List V) (us : List Value), ShAll X.K H vs ds → Vals vs us → ∃ as, ReadsAll s.heap us ds as ∧ sysModules ∉ as
  | [], _, _, h, r => by
    cases h; cases r
    exact ⟨_, .nil, by simp⟩
  | d :: ds, _, _, h, r => by
    cases h with
    | cons h1 h2 =>
      cases r with
      | cons r1 r2 =>
        obtain ⟨as, q1, n1⟩ := Sh.reads I d _ _ h1 r1
        obtain ⟨bs, q2, n2⟩ := Sh.readsAll I ds _ _ h2 r2
        refine ⟨_, .cons q1 q2, fun z => ?_⟩
        rcases List.mem_append.mp z with e | e
        · exact n1 e
        · exact n2 e
end
end
def rRepr (K : PySem.W.Frag) : List V → Hp → VK → Prop := fun xs H Q => ∃ (v : V) (d : PyData), xs = [v] ∧ Sh K H v d ∧ d.showable = true ∧ d.depth ≤ 60 ∧ d.shown.length ≤ sizeLine ∧ Q (.str d.shown) H
theorem call_repr {X : Cx} (hG : X.A.guards = some []) (hu : X.A.units + 64 < cLine) : CallR X (.builtin "repr") (rRepr X.K) := by
  intro pins s σ H xs us Q I r h
  obtain ⟨v, d, rfl, hv, hs, hd, hl, q⟩ := h
  obtain ⟨u, rfl, ru⟩ := vals1 r
  obtain ⟨as, rd, na⟩ := hv.reads I d v u ru
  have big : ∀ a, u = .ref a → wpAny (model X.prog X.w) X.A (call (.builtin "repr") [u]) (EP X pins σ Q) X.xe s := by
    rintro a rfl
    exact PySem.repr_of_reads' rd hs (fun _ => na) hG (by omega) (fun _ _ e => e) (fun h' u tk hk => ⟨.str d.shown, H, I.kept hk, ⟨u, rfl⟩, q⟩) hl
  cases hv with
  | non => cases ru; exact PySem.P.repr_of_none ⟨.str _, H, I.tok _, ⟨_, rfl⟩, q⟩
  | bl b => cases ru; exact PySem.P.repr_of_bool ⟨.str _, H, I.tok _, ⟨_, rfl⟩, q⟩
  | int i => obtain ⟨t, rfl⟩ := ru; exact PySem.P.repr_of_int (of_decide_eq_true hs) ⟨.str _, H, I.tok _, ⟨_, rfl⟩, q⟩
  | str x => obtain ⟨t, rfl⟩ := ru; exact PySem.P.repr_of_str (h := ⟨.str _, H, I.tok _, ⟨_, rfl⟩, q⟩) (hsz := hl)
  | emp e => exact big _ ru
  | lst a b c => exact big _ ru
  | tup a b => exact big _ ru
/-- a new list, apart from the dict of modules -/
def tLstN (t : TA) : TE := fun σ H Q => t σ H fun xs H1 => xs.length ≤ sizeLine ∧ ∀ p, H1 p = none → p ≠ sysModules → Q (.ref p) (upd H1 p (.lst xs))
theorem pe_lstN {X : Cx} {es : List Expr} {t : TA} {pos : Pos} (h : PA X es t) : PE X (.List es pos) (tLstN t) := by
  refine ⟨fun pins s σ H Q I hq => wpAny_List_spliced (thn (h.run pos pins s σ H _ I hq) fun us s1 ⟨xs, H1, I1, r, z, q⟩ => ⟨by rw [← r.length]; exact z, ?_⟩)⟩
  have hf : H1 s1.heap.objs.size = none := I1.hok.fresh (Nat.le_refl _)
  have hb := I1.big
  exact ⟨.ref s1.heap.objs.size, upd H1 s1.heap.objs.size (.lst xs), I1.laid (t' := s1.toks) (fun b u e => Heap.get?_push_of_some _ e) (Nat.le_refl _) ⟨z, us, 0, r, Heap.get?_push_size _ rfl⟩, rfl, q _ hf (Nat.ne_of_gt hb)⟩
end Wq
set_option Elab.async false
set_option linter.all false
set_option maxRecDepth 100000
set_option maxHeartbeats 2000000
namespace Wq
open PySem PySem.Spec PyProof.Rows L2
def top (i : Nat) : Stmt := PySem.Challenge.pw_wordquarry_k33_texts_of_layouts.main.body.getD i (.Pass ⟨0, 0, 0, 0⟩)
/-! callables by name -/
structure Cl (P : Program) (w : World) (K : PySem.W.Frag) (mg : Str → Option Value) (base : Heap) (k : Nat) (x : Str) (sp : Sp) : Prop where
  ex : ∃ (f : Addr) (fd : FuncData) (ps : List Str), FnOk P w K mg base CX0 k f fd ps sp ∧ mg x = some (.ref f) ∧ PySem.W.keepIn K (.ref f) = true ∧ Binds K fd ps []
structure DefAt (K : PySem.W.Frag) (mg : Str → Option Value) (x : Str) (st : Stmt) : Prop where
  ex : ∃ (f : Addr) (fd : FuncData), Fun K x x st f fd ∧ mg x = some (.ref f)
theorem def_mk {h : Heap} {mg : Str → Option Value} {K : PySem.W.Frag} {x : Str} {st : Stmt} {f : Addr} {oc : Value} {od an : Option Addr} {osl : Array (Option Value)} {kV doc pm cdv ct : Value} (X : K.In h) (G : h.Ns mainGlobals mg)
    (a : PySem.W.nsIn K mainGlobals x = some (some (.ref f))) (l : K.lookup f = some ⟨oc, od, .func (PySem.W.fnOf x x (defArgs st) (defBody st) (defScope st) .none kV doc pm an cdv ct), osl⟩)
    (c : PySem.W.codeIn K cdv x = true) (k : PySem.W.keepIn K (.ref f) = true) : DefAt K mg x st := ⟨f, _, fun_mk l c k, PySem.W.mg_of X G a⟩
section
variable {X : Cx} {k j : Nat} {x : Str} {sp : Sp} {p pos : Pos} {e : Expr} {es : List Expr} {t : TA}
theorem pe_cl (c : Cl X.prog X.w X.K X.mg X.base k x sp) (hr : Room j X.A) (hk : k ≤ j) (hg : Gl X x) (ha : PA X (e :: es) t)
    (hdb : (x == ("__debug__" : Str)) = false := by decide) (he : starEach (e :: es) X.env = (false, eval e X.env) :: starEach es X.env := by rfl) (hpl : (backTo pos (starEach es X.env)).any (·.1) = false := by rfl) :
    PE X (.Call (.Name x p) (e :: es) [] pos) (tCall sp [] E0 t) := by
  obtain ⟨f, fd, ps, F, hm, kp, b⟩ := c.ex
  exact pe_call F (hr.mono hk) hg hm kp b .nil pass0 ha hdb he hpl
end
section
variable {P : Program} {w : World} {K : PySem.W.Frag} {mg : Str → Option Value} {base : Heap}
theorem cl_of {x : Str} {st : Stmt} {N ps : List Str} {k : Nat} {sp : Sp} (D : DefAt K mg x st) (S : FnScope N ps (defScope st)) (len : ∀ vs H Q E, sp vs H Q E → vs.length = ps.length)
    (hb : ∀ (kV doc pm : Value) (an : Option Addr) (cdv ct : Value) (us : List Value), us.length = ps.length → bindArgs (PySem.W.fnOf x x (defArgs st) (defBody st) (defScope st) .none kV doc pm an cdv ct) ⟨us, []⟩ = pure (ps.zip us))
    (hbody : ∀ (f : Addr) (cdv : Value) (A : Around) (outer : List Env) (s : Shared) (H : Hp) (vs : List V) (Q : VK) (E : XK), Room k (A.deeper (envOfC x (defScope st) s.heap.objs.size f cdv)) → sp vs H Q E →
      ∃ t, PSs (cxOf CX0 P w K mg base N x (defScope st) f cdv A outer s H E).nox (defBody st) t ∧ t { nx := fun _ H' => Q .non H', rt := Q } (start N vs) H) : Cl P w K mg base (k + 1) x sp := by
  obtain ⟨f, fd, F, hm⟩ := D.ex
  exact ⟨f, fd, ps, F.ok S len (hbody f), hm, F.kp, F.binds hb⟩
/-! what the law's own words want of the top -/
structure Txt (K : PySem.W.Frag) (mg : Str → Option Value) : Prop where
  len : mg "len" = none
  int : mg "int" = none
  list : mg "list" = none
  range : mg "range" = none
  tuple : mg "tuple" = none
  min : mg "min" = none
/-! the pen -/
abbrev kv (s : Str) (v : V) : Key × V := (Sum.inr s, v)
def penD (c : Addr) (i d n f : Int) : List (Key × V) := [kv "cells" (.ref c), kv "at" (.int i), kv "digits" (.int d), kv "count" (.int n), kv "fold" (.int f)]
structure PenAt (H : Hp) (p c : Addr) (m : Nat) : Prop where
  ex : ∃ (ns : List Int) (i d f : Int) (n : Nat), H p = some (.dK (penD c i d n f)) ∧ H c = some (.lst (ns.map V.int)) ∧ 0 ≤ i ∧ 0 ≤ d ∧ n ≤ m ∧ 0 ≤ f ∧ f < 2147483587
theorem SqL_upd {H : Hp} {p c : Addr} {xs : List V} {kvs : List (Key × V)} {o : HO} (h : SqL K H c xs) (hp : H p = some (.dK kvs)) : SqL K (upd H p o) c xs := by
  rcases h with (h | ⟨u, h⟩) | h
  · refine .inl (.inl ?_)
    rw [upd_ne (ne_of h hp (by intro z; cases z))]
    exact h
  · refine .inl (.inr ⟨u, ?_⟩)
    rw [upd_ne (ne_of h hp (by intro z; cases z))]
    exact h
  · exact .inr h
section
variable {H : Hp} {p c : Addr} {i d n f x : Int}
theorem g_cells (h : H p = some (.dK (penD c i d n f))) : DGet H p (.str "cells") (some (.ref c)) := DGet.k (k := Sum.inr "cells") h
theorem g_at (h : H p = some (.dK (penD c i d n f))) : DGet H p (.str "at") (some (.int i)) := DGet.k (k := Sum.inr "at") h
theorem g_digits (h : H p = some (.dK (penD c i d n f))) : DGet H p (.str "digits") (some (.int d)) := DGet.k (k := Sum.inr "digits") h
theorem g_count (h : H p = some (.dK (penD c i d n f))) : DGet H p (.str "count") (some (.int n)) := DGet.k (k := Sum.inr "count") h
theorem g_fold (h : H p = some (.dK (penD c i d n f))) : DGet H p (.str "fold") (some (.int f)) := DGet.k (k := Sum.inr "fold") h
theorem p_count (h : H p = some (.dK (penD c i d n f))) : DPut H p (.str "count") (.int x) (upd H p (.dK (penD c i d x f))) := DPut.k (k := Sum.inr "count") h (by show 5 < sizeLine; decide)
theorem p_at : DPut (upd H p (.dK (penD c i d n f))) p (.str "at") (.int x) (upd H p (.dK (penD c x d n f))) := by
  have e := DPut.k (k := Sum.inr "at") (v := .int x) (upd_same (H := H) (a := p) (o := .dK (penD c i d n f))) (by show 5 < sizeLine; decide)
  rw [upd_upd] at e
  exact e
theorem p_digits : DPut (upd H p (.dK (penD c i d n f))) p (.str "digits") (.int x) (upd H p (.dK (penD c i x n f))) := by
  have e := DPut.k (k := Sum.inr "digits") (v := .int x) (upd_same (H := H) (a := p) (o := .dK (penD c i d n f))) (by show 5 < sizeLine; decide)
  rw [upd_upd] at e
  exact e
theorem p_fold : DPut (upd H p (.dK (penD c i d n f))) p (.str "fold") (.int x) (upd H p (.dK (penD c i d n x))) := by
  have e := DPut.k (k := Sum.inr "fold") (v := .int x) (upd_same (H := H) (a := p) (o := .dK (penD c i d n f))) (by show 5 < sizeLine; decide)
  rw [upd_upd] at e
  exact e
end
theorem PenAt.mono {H : Hp} {p c : Addr} {m m' : Nat} (h : PenAt H p c m) (hm : m ≤ m') : PenAt H p c m' := by
  obtain ⟨ns, i, d, f, n, h1, h2, h3, h4, h5, h6, h7⟩ := h.ex
  exact ⟨ns, i, d, f, n, h1, h2, h3, h4, by omega, h6, h7⟩
theorem PenAt.same {H H' : Hp} {p c : Addr} {m : Nat} (h : PenAt H p c m) (s : Same H H') : PenAt H' p c m := by
  obtain ⟨ns, i, d, f, n, h1, h2, h3⟩ := h.ex
  exact ⟨ns, i, d, f, n, s _ _ h1, s _ _ h2, h3⟩
theorem PenAt.dict {H : Hp} {p c : Addr} {m : Nat} (h : PenAt H p c m) : ∃ kvs, H p = some (.dK kvs) := by
  obtain ⟨ns, i, d, f, n, h1, _⟩ := h.ex
  exact ⟨_, h1⟩
theorem PenAt.cells {H : Hp} {p c : Addr} {m : Nat} (h : PenAt H p c m) : ∃ xs, H c = some (.lst xs) := by
  obtain ⟨ns, i, d, f, n, h1, h2, _⟩ := h.ex
  exact ⟨_, h2⟩
theorem PenAt.put {H : Hp} {p c l : Addr} {m : Nat} {o : HO} (h : PenAt H p c m) (hp : p ≠ l) (hc : c ≠ l) : PenAt (upd H l o) p c m := by
  obtain ⟨ns, i, d, f, n, h1, h2, h3⟩ := h.ex
  exact ⟨ns, i, d, f, n, by rw [upd_ne hp]; exact h1, by rw [upd_ne hc]; exact h2, h3⟩
theorem PenAt.ne {H : Hp} {p c l : Addr} {m : Nat} {o : HO} (h : PenAt H p c m) (hl : H l = some o) (ho : ∀ kvs, o ≠ .dK kvs) : l ≠ p := by
  obtain ⟨kvs, hk⟩ := h.dict
  exact ne_of hl hk (ho kvs)
/-- the pen moved on: lists stay -/
theorem PenAt.lst {H : Hp} {p c l : Addr} {m : Nat} {xs : List V} {o : HO} (h : PenAt H p c m) (hl : H l = some (.lst xs)) : upd H p o l = some (.lst xs) := by
  rw [upd_ne (h.ne hl (by intro kvs z; cases z))]
  exact hl
abbrev sPen : Stmt := top 25
abbrev sDraw : Stmt := top 26
abbrev sPick : Stmt := top 27
def spPen (K : PySem.W.Frag) : Sp := fun vs H Q _ => ∃ (a : Addr) (ns : List Int), vs = [.ref a] ∧ SqL K H a (ns.map V.int) ∧ ∀ p c H', H p = none → Same H H' → PenAt H' p c 0 → Q (.ref p) H'
def spDraw (K : PySem.W.Frag) : Sp := fun vs H Q _ => ∃ (p c : Addr) (m : Nat) (many : Int), vs = [.ref p, .int many] ∧ PenAt H p c m ∧ m < 1099511627776 ∧ 0 < many ∧ many.natAbs.log2 < 9000 ∧
  ∀ (v : Int) (o : HO), 0 ≤ v → v < many → PenAt (upd H p o) p c (m + 1) → Q (.int v) (upd H p o)
/-- what may be picked from: a list, a tuple, a text -/
inductive Some (K : PySem.W.Frag) (H : Hp) : V → List V → Prop
  | lst {l xs} : SqL K H l xs → Some K H (.ref l) xs
  | tup {l xs} : SqT K H l xs → Some K H (.ref l) xs
  | str {z} : z.length ≤ sizeLine → Some K H (.str z) (z.cps.toList.map fun c => V.str ⟨#[c]⟩)
def spPick (K : PySem.W.Frag) : Sp := fun vs H Q _ => ∃ (p c : Addr) (m : Nat) (u : V) (xs : List V), vs = [.ref p, u] ∧ PenAt H p c m ∧ Some K H u xs ∧ m < 1099511627776 ∧ 0 < xs.length ∧ xs.length < 1073741824 ∧
  ∀ (i : Nat) (v : V) (o : HO), xs[i]? = some v → PenAt (upd H p o) p c (m + 1) → Q v (upd H p o)
theorem scPen : FnScope ["_law_script", "_law_fold", "_law_cell"] ["_law_script"] (defScope sPen) := ⟨rfl, rfl, rfl, by decide +kernel, rfl, by decide +kernel, by decide +kernel⟩
theorem scDraw : FnScope ["_law_pen_here", "_law_many", "_law_cell", "_law_digit", "_law_mixed"] ["_law_pen_here", "_law_many"] (defScope sDraw) := ⟨rfl, rfl, rfl, by decide +kernel, rfl, by decide +kernel, by decide +kernel⟩
theorem scPick : FnScope ["_law_pen_here", "_law_some"] ["_law_pen_here", "_law_some"] (defScope sPick) := ⟨rfl, rfl, rfl, by decide +kernel, rfl, by decide +kernel, by decide +kernel⟩
theorem ints_at {ns : List Int} {i : Nat} {y : V} (hi : (ns.map V.int)[i]? = some y) : ∃ z, y = V.int z := by
  rw [List.getElem?_map] at hi
  cases e : ns[i]? with
  | none =>
    rw [e] at hi
    cases hi
  | some z =>
    rw [e] at hi
    exact ⟨z, (Option.some.inj hi).symm⟩
theorem ok_pen (D : DefAt K mg "_law_pen" sPen) (T : Txt K mg) : Cl P w K mg base 1 "_law_pen" (spPen K) := by
  refine cl_of D scPen (fun vs H Q E h => ?_) (fun _ _ _ _ _ _ us hl => match us, hl with | [_], _ => rfl) (fun f cdv A outer s H vs Q E hr h => ?_)
  · obtain ⟨a, ns, rfl, _⟩ := h
    rfl
  · obtain ⟨a, ns, rfl, hS, k⟩ := h
    refine ⟨_, pss_cons (ps_set (i := 1) scPen.nd rfl (Or.inl rfl) pe_int)
      (pss_cons (ps_for PassesOwn.never rfl (pi_list (pv 0)) (pg_name (i := 2) scPen.nd rfl (Or.inl rfl))
        (pss_one (ps_set (i := 1) scPen.nd rfl (Or.inl rfl) (pe_op op_mod (pe_callTy call_int1 (by rfl) (by exact T.int) PyProof.Rows.boot_int (pa_cons (pe_op op_add (pe_op op_mul (pv 1) pe_int) (pv 2)) pa_nil)) pe_int))))
      (pss_one (ps_ret (pe_disp (pps_cons pe_str (pe_callTy call_list_of (by rfl) (by exact T.list) (by decide +kernel) (pa_cons (pv 0) pa_nil)) (pps_cons pe_str pe_int (pps_cons pe_str pe_int (pps_cons pe_str pe_int (pps_cons pe_str (pv 1) pps_nil))))) (by rfl) (by rfl) (fun z => by cases z) (by decide))))), ?_⟩
    refine ⟨_, rfl, a, rfl, ⟨_, hS⟩, for_list (K := K) (a := a) (xs := ns.map V.int) (fun i σ H' => ∃ (n : Int) (v : Option V), σ = [some (.ref a), some (.int n), v] ∧ H' = H ∧ 0 ≤ n ∧ n < 1000000007)
      ⟨0, none, rfl, rfl, by decide, by decide⟩ (fun i σ H' _ ⟨_, _, _, e, _, _⟩ => by rw [e]; exact hS) ?_ ?_⟩
    · rintro i y σ H' hi ⟨n, v, rfl, rfl, h0, h1⟩
      obtain ⟨z, rfl⟩ := ints_at hi
      refine ⟨_, rfl, _, _, rfl, rfl, .inl ⟨by omega, by omega⟩, _, rfl, _, _, rfl, rfl, .inl ⟨_, rfl, _, _, rfl, rfl, (by show (0 : Int) < 1000000007; decide), ?_⟩⟩
      exact ⟨(n * 41 + z) % 1000000007, _, rfl, rfl, Int.emod_nonneg _ (by decide), Int.emod_lt_of_pos _ (by decide)⟩
    · rintro σ H' ⟨n, v, rfl, rfl, h0, h1⟩
      intro p hp
      have s1 : Same H' (upd H' p (.dK [])) := fun b o e => by rw [upd_ne (ne_of_none e hp)]; exact e
      refine ⟨_, rfl, a, _, rfl, .inl (s1.seq hS), fun l hl => ?_⟩
      have npl : p ≠ l := ne_of_none upd_same hl
      have s2 : Same H' (upd (upd (upd H' p (.dK [])) l (.lst (ns.map V.int))) p (.dK (mergeK [] (penD l 0 0 0 n)))) := fun b o e => by
        rw [upd_ne (ne_of_none e hp), upd_ne (ne_of_none (s1 b o e) hl)]
        exact s1 b o e
      refine ⟨_, rfl, by rw [upd_ne npl, upd_same], penD l 0 0 0 n, rfl, (by show 5 ≤ 15; decide), ?_⟩
      refine k p l _ hp s2 ⟨ns, 0, 0, n, 0, upd_same, ?_, by decide, by decide, by decide, h0, by omega⟩
      rw [upd_ne npl.symm, upd_same]
theorem ok_draw (D : DefAt K mg "_law_draw" sDraw) (T : Txt K mg) : Cl P w K mg base 1 "_law_draw" (spDraw K) := by
  refine cl_of D scDraw (fun vs H Q E h => ?_) (fun _ _ _ _ _ _ us hl => match us, hl with | [_, _], _ => rfl) (fun f cdv A outer s H vs Q E hr h => ?_)
  · obtain ⟨p, c, m, many, rfl, _⟩ := h
    rfl
  · obtain ⟨p, c, m, many, rfl, HP, hm, m0, m1, k⟩ := h
    obtain ⟨ns, i, d, f, n, hH, hc, hi, hd, hn, hf0, hf1⟩ := HP.ex
    have hu := hu_of hr
    refine ⟨_, pss_cons (ps_dput hu (pv 0) pe_str (pe_op op_add (pe_dget hu (pv 0) pe_str (fun _ _ => rfl)) pe_int) rfl)
      (C8.pss_cut (ps_if (PW.pt (pw_and (pt_cmpR op_eq (pe_dget hu (pv 0) pe_str (fun _ _ => rfl)) pe_int (nomark _)) (pw_and1 (pt_cmpR op_lt (pe_dget hu (pv 0) pe_str (fun _ _ => rfl)) (pe_callB call_len_seq (by rfl) (by exact T.len) PySem.boot_len (pa_cons (pe_dget hu (pv 0) pe_str (fun _ _ => rfl)) pa_nil)) (nomark _)))))
        (pss_cons (ps_set (i := 2) scDraw.nd rfl (Or.inl rfl) (pe_ix ix_list (pe_dget hu (pv 0) pe_str (fun _ _ => rfl)) (pe_dget hu (pv 0) pe_str (fun _ _ => rfl)) (fun _ _ => rfl)))
        (pss_cons (ps_dput hu (pv 0) pe_str (pe_op op_add (pe_dget hu (pv 0) pe_str (fun _ _ => rfl)) pe_int) rfl)
        (pss_one (ps_if (pt_cmpR op_ge (pv 2) (pe_op op_pow pe_int pe_int) (nomark _))
          (pss_one (ps_dput hu (pv 0) pe_str (pe_op op_sub (pv 2) (pe_op op_pow pe_int pe_int)) rfl))
          (pss_one (ps_dput hu (pv 0) pe_str (pe_op op_mod (pe_callTy call_int1 (by rfl) (by exact T.int) PyProof.Rows.boot_int (pa_cons (pe_op op_add (pe_op op_mul (pe_dget hu (pv 0) pe_str (fun _ _ => rfl)) pe_int) (pv 2)) pa_nil)) pe_int) rfl))))))
        pss_nil)
      (pss_cons (ps_if (pt_cmpR op_gt (pe_dget hu (pv 0) pe_str (fun _ _ => rfl)) pe_int (nomark _))
        (pss_cons (ps_set (i := 3) scDraw.nd rfl (Or.inl rfl) (pe_op op_modN (pe_callTy call_int1 (by rfl) (by exact T.int) PyProof.Rows.boot_int (pa_cons (pe_dget hu (pv 0) pe_str (fun _ _ => rfl)) pa_nil)) (pv 1)))
        (pss_cons (ps_dput hu (pv 0) pe_str (pe_op op_fdivW (pe_dget hu (pv 0) pe_str (fun _ _ => rfl)) (pv 1)) rfl)
        (pss_one (ps_ret (pv 3))))) pss_nil)
      (pss_cons (ps_set (i := 4) scDraw.nd rfl (Or.inl rfl) (pe_op op_add (pe_op op_add (pe_dget hu (pv 0) pe_str (fun _ _ => rfl)) (pe_op op_mul (pe_dget hu (pv 0) pe_str (fun _ _ => rfl)) pe_int)) pe_int))
      (pss_one (ps_ret (pe_op op_modN (pe_op op_fdivN (pe_callTy call_int1 (by rfl) (by exact T.int) PyProof.Rows.boot_int (pa_cons (pe_op op_modN (pe_op op_pow (pv 4) pe_int) pe_int) pa_nil)) pe_int) (pv 1))))))), ?_⟩
    -- count
    refine ⟨_, rfl, p, _, rfl, g_count hH, _, _, rfl, rfl, _, rfl, p, _, rfl, p_count hH, ?_⟩
    have S1 : ∀ o, upd H p o c = some (.lst (ns.map V.int)) := fun o => HP.lst hc
    have S0 : ∀ o, SqL K (upd H p o) c (ns.map V.int) := fun o => .inl (.inl (S1 o))
    refine ⟨fun σ H' => ∃ (i' d' f' : Int) (v : Option V), σ = [some (.ref p), some (.int many), v, none, none] ∧ H' = upd H p (.dK (penD c i' d' ((n : Int) + 1) f')) ∧ 0 ≤ i' ∧ 0 ≤ d' ∧ 0 ≤ f' ∧ f' < 2147483587, ?_, ?_⟩
    · -- the digits are used up?
      refine ⟨_, rfl, p, _, rfl, g_digits upd_same, rfl, _, rfl, ?_⟩
      refine ite2 (fun _ => ?_) (fun _ => ⟨i, d, f, none, rfl, rfl, hi, hd, hf0, hf1⟩)
      refine ⟨_, rfl, p, _, rfl, g_at upd_same, _, rfl, p, _, rfl, g_cells upd_same, c, _, rfl, .inl (S0 _), _, _, rfl, rfl, _, rfl, ?_⟩
      refine ite2 (fun hlt => ?_) (fun _ => ⟨i, d, f, none, rfl, rfl, hi, hd, hf0, hf1⟩)
      have hlt := of_decide_eq_true hlt
      rw [List.length_map] at hlt
      obtain ⟨z, hz⟩ : ∃ z, (ns.map V.int)[i.toNat]? = some (V.int z) := by
        refine ⟨ns[i.toNat]'(by omega), ?_⟩
        rw [List.getElem?_map, List.getElem?_eq_getElem (by omega)]
        rfl
      have hat : atI (ns.map V.int) i = some (V.int z) := by
        have e : i = ((i.toNat : Nat) : Int) := by omega
        rw [e]
        exact atI_nat hz
      refine ⟨_, rfl, p, _, rfl, g_cells upd_same, _, rfl, p, _, rfl, g_at upd_same, c, _, _, _, rfl, rfl, S0 _, hat, ?_⟩
      refine ⟨_, rfl, p, _, rfl, g_at upd_same, _, _, rfl, rfl, _, rfl, p, _, rfl, p_at, ?_⟩
      refine ⟨_, rfl, _, _, rfl, rfl, ⟨by decide, by decide, by decide⟩, _, _, rfl, rfl, _, rfl, ?_⟩
      refine ite2 (fun hge => ?_) (fun _ => ?_)
      · have hge := of_decide_eq_true hge
        refine ⟨_, rfl, _, _, rfl, rfl, ⟨by decide, by decide, by decide⟩, _, _, rfl, rfl, _, rfl, p, _, rfl, p_digits, ?_⟩
        exact ⟨_, _, f, _, rfl, rfl, by omega, Int.sub_nonneg.mpr hge, hf0, hf1⟩
      · refine ⟨_, rfl, p, _, rfl, g_fold upd_same, _, _, rfl, rfl, .inl ⟨by omega, by omega⟩, _, rfl, _, _, rfl, rfl, .inl ⟨_, rfl, _, _, rfl, rfl, (by show (0 : Int) < 2147483587; decide), _, rfl, p, _, rfl, p_fold, ?_⟩⟩
        exact ⟨_, _, _, _, rfl, rfl, by omega, hd, Int.emod_nonneg _ (by decide), Int.emod_lt_of_pos _ (by decide)⟩
    · rintro σ H' ⟨i', d', f', v, rfl, rfl, hi', hd', hf0', hf1'⟩
      have pen : ∀ d'', 0 ≤ d'' → PenAt (upd H p (.dK (penD c i' d'' ((n : Int) + 1) f'))) p c (m + 1) := fun d'' h0 => ⟨ns, i', d'', f', n + 1, upd_same, S1 _, hi', h0, by omega, hf0', hf1'⟩
      refine ⟨_, rfl, p, _, rfl, g_digits upd_same, _, _, rfl, rfl, _, rfl, ?_⟩
      refine ite2 (fun _ => ?_) (fun _ => ?_)
      · refine ⟨_, rfl, p, _, rfl, g_digits upd_same, .inl ⟨_, rfl, _, rfl, _, _, rfl, rfl, by omega, ?_⟩⟩
        refine ⟨_, rfl, p, _, rfl, g_digits upd_same, _, rfl, _, _, rfl, rfl, ⟨m0, m1⟩, _, rfl, p, _, rfl, p_digits, ?_⟩
        refine ⟨_, rfl, ?_⟩
        exact k _ _ (Int.fmod_nonneg_of_pos _ m0) (Int.fmod_lt_of_pos _ m0) (pen _ (Int.ediv_nonneg hd' (by omega)))
      · refine ⟨_, rfl, p, _, rfl, g_fold upd_same, _, rfl, p, _, rfl, g_count upd_same, _, _, rfl, rfl, .inl ⟨by omega, by omega⟩, _, _, rfl, rfl, _, _, rfl, rfl, ?_⟩
        refine ⟨_, rfl, _, _, rfl, rfl, ⟨by decide, by decide, by omega⟩, _, _, rfl, rfl, (by show (2305843009213693951 : Int) ≠ 0; decide), .inl ⟨_, rfl, _, _, rfl, rfl, ⟨by decide, by decide⟩, _, rfl, _, _, rfl, rfl, by omega, ?_⟩⟩
        exact k _ _ (Int.fmod_nonneg_of_pos _ m0) (Int.fmod_lt_of_pos _ m0) (pen _ hd')
theorem SqT_upd {H : Hp} {p c : Addr} {xs : List V} {kvs : List (Key × V)} {o : HO} (h : SqT K H c xs) (hp : H p = some (.dK kvs)) : SqT K (upd H p o) c xs := by
  rcases h with (h | ⟨u, h⟩) | h
  · refine .inl (.inl ?_)
    rw [upd_ne (ne_of h hp (by intro z; cases z))]
    exact h
  · refine .inl (.inr ⟨u, ?_⟩)
    rw [upd_ne (ne_of h hp (by intro z; cases z))]
    exact h
  · exact .inr h
theorem ok_pick (D : DefAt K mg "_law_pick" sPick) (T : Txt K mg) (CD : Cl P w K mg base 1 "_law_draw" (spDraw K)) : Cl P w K mg base 2 "_law_pick" (spPick K) := by
  refine cl_of D scPick (fun vs H Q E h => ?_) (fun _ _ _ _ _ _ us hl => match us, hl with | [_, _], _ => rfl) (fun f cdv A outer s H vs Q E hr h => ?_)
  · obtain ⟨p, c, m, u, xs, rfl, _⟩ := h
    rfl
  · obtain ⟨p, c, m, u, xs, rfl, HP, hS, hm, m0, m1, k⟩ := h
    refine ⟨_, pss_one (ps_ret (pe_ix ix_seq (pv 1) (pe_cl CD hr (Nat.le_refl _) rfl (pa_cons (pv 0) (pa_cons (pe_callB call_len (by rfl) (by exact T.len) PySem.boot_len (pa_cons (pv 1) pa_nil)) pa_nil))) (fun _ _ => rfl))), ?_⟩
    obtain ⟨kvs, hk⟩ := HP.dict
    have hln : LenV K u H xs.length := by
      cases hS with
      | lst h => exact .inl ⟨_, h, rfl⟩
      | tup h => exact .inr ⟨_, h, rfl⟩
      | str h => exact ⟨h, by rw [List.length_map]; exact (Array.length_toList).symm⟩
    refine ⟨_, rfl, _, rfl, _, rfl, _, _, rfl, hln, ?_⟩
    refine ⟨p, c, m, _, rfl, HP, hm, by omega, ?_, fun v o v0 v1 HP' => ?_⟩
    · have h2 : (xs.length : Int).natAbs.log2 < 30 := PySem.Flt.log2_lt_of (by decide) (by omega)
      omega
    obtain ⟨y, hv⟩ : ∃ y, xs[v.toNat]? = some y := ⟨xs[v.toNat]'(by omega), List.getElem?_eq_getElem (by omega)⟩
    have e : v = ((v.toNat : Nat) : Int) := by omega
    have hq := k v.toNat y o hv HP'
    cases hS with
    | lst h => exact .inl ⟨_, xs, v, y, rfl, rfl, SqL_upd h hk, by rw [e]; exact atI_nat hv, hq⟩
    | tup h => exact .inr (.inl ⟨_, xs, v, y, rfl, rfl, SqT_upd h hk, by rw [e]; exact atI_nat hv, hq⟩)
    | @str z h =>
      rw [List.getElem?_map] at hv
      cases ec : z.cps.toList[v.toNat]? with
      | none => rw [ec] at hv; cases hv
      | some cc =>
        rw [ec] at hv
        obtain rfl := Option.some.inj hv
        exact .inr (.inr ⟨z, v, cc, rfl, rfl, h, by rw [e]; exact atI_nat ec, hq⟩)
end
end Wq
set_option Elab.async false
set_option linter.all false
set_option maxRecDepth 100000
set_option maxHeartbeats 4000000
namespace Wq
open PySem PySem.Spec PyProof.Rows L2
theorem hu64 {A : Around} {k : Nat} (hr : Room k A) : A.units + 64 < cLine := by
  have := hr.un
  omega
abbrev NTold : List Str := ["_law_value", "_law_is_string", "_law_signs", "_law_known", "_law_word", "_law_small", "_law_due", "_law_sign"]
theorem sNew {H : Hp} {q : Addr} {o : HO} (h : H q = none) : Same H (upd H q o) := fun b u e => by rw [upd_ne (ne_of_none e h)]; exact e
theorem sPut {H G : Hp} {q : Addr} {o : HO} (s : Same H G) (h : H q = none) : Same H (upd G q o) := fun b u e => by rw [upd_ne (ne_of_none e h)]; exact s b u e
def SameP (p : Addr) (H H' : Hp) : Prop := ∀ b o, H b = some o → b ≠ p → H' b = some o
theorem SameP.refl {p : Addr} {H : Hp} : SameP p H H := fun _ _ e _ => e
theorem SameP.trans {p : Addr} {H H1 H2 : Hp} (a : SameP p H H1) (b : SameP p H1 H2) : SameP p H H2 := fun x o e n => b x o (a x o e n) n
theorem SameP.of {p : Addr} {H H' : Hp} (s : Same H H') : SameP p H H' := fun b o e _ => s b o e
theorem SameP.upd {p : Addr} {H : Hp} {o : HO} : SameP p H (L2.upd H p o) := fun b u e n => by rw [upd_ne n]; exact e
theorem SameP.new {p q : Addr} {H : Hp} {o : HO} (h : H q = none) : SameP p H (L2.upd H q o) := fun b u e n => by rw [upd_ne (ne_of_none e h)]; exact e
theorem textFrom_up {B : Nat} : ∀ (ts : List Str) (k : Nat) (acc : Str), (∀ t ∈ ts, t.length ≤ B) → (textFrom k acc ts).length ≤ acc.length + ts.length * (B + 2)
  | [], k, acc, _ => by
    show acc.length ≤ acc.length + 0 * (B + 2)
    omega
  | t :: r, k, acc, h => by
    have e : (acc ++ (if k > 0 then ", " else "" : String) ++ t).length = acc.length + (if k > 0 then 2 else 0) + t.length := by
      rw [strLen_append, strLen_append]
      split <;> rfl
    have i : (if k > 0 then 2 else 0 : Nat) ≤ 2 := by split <;> omega
    have h1 := textFrom_up r (k + 1) (acc ++ (if k > 0 then ", " else "" : String) ++ t) fun u hu => h u (List.mem_cons_of_mem _ hu)
    have h2 := h t List.mem_cons_self
    rw [e] at h1
    show (textFrom (k + 1) _ r).length ≤ acc.length + (r.length + 1) * (B + 2)
    have e3 : (r.length + 1) * (B + 2) = r.length * (B + 2) + (B + 2) := Nat.succ_mul _ _
    omega
theorem listText_up {B : Nat} {ts : List Str} (h : ∀ t ∈ ts, t.length ≤ B) : (listText ts).length ≤ 2 + ts.length * (B + 2) := by
  have e := textFrom_up ts 0 ("[" : Str) h
  unfold listText
  rw [strLen_append]
  have e1 : ("[" : Str).length = 1 := rfl
  have e2 : ("]" : Str).length = 1 := rfl
  rw [e1] at e
  rw [e2]
  omega
section
variable {X : Cx} {e : Expr} {t t' : TE}
theorem pe_imp (h : PE X e t) (i : ∀ σ H Q, t' σ H Q → t σ H Q) : PE X e t' := ⟨fun pins s σ H Q I q => h.run pins s σ H Q I (i σ H Q q)⟩
end
section
variable {X : Cx} {k j : Nat} {x : Str} {sp : Sp} {p pos : Pos}
theorem pe_cl0 (c : Cl X.prog X.w X.K X.mg X.base k x sp) (hr : Room j X.A) (hk : k ≤ j) (hg : Gl X x) (hdb : (x == ("__debug__" : Str)) = false := by decide) : PE X (.Call (.Name x p) [] [] pos) (tCall sp [] E0 tNil) := by
  obtain ⟨f, fd, ps, F, hm, kp, b⟩ := c.ex
  exact pe_call0 F (hr.mono hk) hg hm kp b .nil pass0 hdb
end
end Wq
set_option Elab.async false
set_option linter.all false
set_option maxRecDepth 100000
set_option maxHeartbeats 4000000
namespace Wq
open PySem PySem.Spec PyProof.Rows L2
/-- what a layout is -/
structure Ly where
  fr : Bool
  B : Nat
  E : Nat
  X : Nat
  H : Nat
structure Ly.Ok (y : Ly) : Prop where
  b1 : 1 ≤ y.B
  b16 : y.B ≤ 16
  e : y.E ≤ 4
  x : y.X ≤ 24
  h : y.H ≤ 64
abbrev nI (n : Nat) : V := .int (n : Int)
def lf (y : Ly) (tx : Str) : List (Str × V) := [("is_free", .bl y.fr), ("block", nI y.B), ("exceptions", nI y.E), ("wide", nI y.X), ("head", nI y.H), ("text", .str tx)]
def LyAt (C : Addr) (H : Hp) (a : Addr) (y : Ly) : Prop := ∃ dx tx, H a = some (.ins C dx (lf y tx))
theorem LyAt.same {C : Addr} {H H' : Hp} {a : Addr} {y : Ly} (h : LyAt C H a y) (s : Same H H') : LyAt C H' a y := by
  obtain ⟨dx, tx, e⟩ := h
  exact ⟨dx, tx, s _ _ e⟩
structure TxtL (K : PySem.W.Frag) (mg : Str → Option Value) (C : Addr) : Prop where
  cl : Cls K C
  nF : NoAttr K C "is_free"
  nB : NoAttr K C "block"
  nE : NoAttr K C "exceptions"
  nX : NoAttr K C "wide"
  nH : NoAttr K C "head"
  nT : NoAttr K C "text"
  gC : mg "Layout" = some (.ref C)
  isi : mg "isinstance" = none
  str : mg "str" = none
  max : mg "max" = none
  sorted : mg "sorted" = none
  repr : mg "repr" = none
theorem SqL_same {K : PySem.W.Frag} {H H' : Hp} {a : Addr} {xs : List V} (h : SqL K H a xs) (s : Same H H') : SqL K H' a xs := by
  rcases h with (h | ⟨o, h⟩) | h
  · exact .inl (.inl (s _ _ h))
  · exact .inl (.inr ⟨o, s _ _ h⟩)
  · exact .inr h
section
variable {X : Cx} {e : Expr} {t t' : TT}
theorem pt_imp (h : PT X e t) (i : ∀ σ H Q, t' σ H Q → t σ H Q) : PT X e t' := ⟨fun pins s σ H Q I q => h.run pins s σ H Q I (i σ H Q q)⟩
end
def paV (y : Ly) (hd : Int) : List V := [.bl y.fr, nI y.B, nI y.E, nI y.X, .int hd]
def HdOk (y : Ly) (hd : Int) : Prop := (y.H : Int) = if hd < 0 then 8 else hd
theorem cut_from {xs : List V} {k : Nat} : cutV xs (some (k : Int)) none = xs.drop k := by
  unfold cutV
  rw [HT.sIx_nat, HT.sIx_none]
  by_cases h : k ≤ xs.length
  · rw [Nat.min_eq_left h, List.take_of_length_le (by rw [List.length_drop]; omega)]
  · rw [Nat.min_eq_right (by omega), List.drop_eq_nil_of_le (by omega), List.drop_eq_nil_of_le (by omega), List.take_nil]
theorem cut_to {xs : List V} {k : Nat} : cutV xs none (some (k : Int)) = xs.take k := by
  unfold cutV
  rw [HT.sIx_nat, HT.sIx_none, List.drop_zero, Nat.sub_zero]
  by_cases h : k ≤ xs.length
  · rw [Nat.min_eq_left h]
  · rw [Nat.min_eq_right (by omega), List.take_of_length_le (Nat.le_refl _), List.take_of_length_le (by omega)]
theorem cut_mid {xs : List V} {b e : Nat} (h : b ≤ e) (he : e ≤ xs.length) : cutV xs (some (b : Int)) (some (e : Int)) = (xs.drop b).take (e - b) := by
  unfold cutV
  rw [HT.sIx_nat, HT.sIx_nat, Nat.min_eq_left (show b ≤ xs.length by omega), Nat.min_eq_left he]
end Wq
set_option Elab.async false
set_option linter.all false
set_option maxRecDepth 100000
set_option maxHeartbeats 4000000
namespace Wq
open PySem PySem.Spec PyProof.Rows L2
theorem pss_pre {X : Cx} {b : List Stmt} {t t' : TS} (h : PSs X b t) (i : ∀ D σ H, t' D σ H → t D σ H) : PSs X b t' := ⟨fun pins s σ H D I q => h.run pins s σ H D I (i D σ H q)⟩
/-- what is never reached -/
def tNever : TS := fun _ _ _ => False
theorem pss_never {X : Cx} {b : List Stmt} : PSs X b tNever := ⟨fun _ _ _ _ _ _ q => q.elim⟩
theorem ps_never {X : Cx} {b : Stmt} : PS X b tNever := ⟨fun _ _ _ _ _ _ q => q.elim⟩
/-- callables with promises that let errors out -/
structure Cle (P : Program) (w : World) (K : PySem.W.Frag) (mg : Str → Option Value) (base : Heap) (k : Nat) (x : Str) (sp : Sp) : Prop where
  ex : ∃ (f : Addr) (fd : FuncData) (ps : List Str), FnOk P w K mg base (L2.CX P w) k f fd ps sp ∧ mg x = some (.ref f) ∧ PySem.W.keepIn K (.ref f) = true ∧ Binds K fd ps []
/-! methods -/
structure MAt (K : PySem.W.Frag) (C : Addr) (m qual : Str) (st : Stmt) : Prop where
  ex : ∃ (f : Addr) (fd : FuncData), Fun K m qual st f fd ∧ Meth K C m f
theorem m_mk {K : PySem.W.Frag} {C : Addr} {m qual : Str} {st : Stmt} {f : Addr} {oc : Value} {od an : Option Addr} {osl : Array (Option Value)} {kV doc pm cdv ct : Value}
    (a : PySem.W.findIn K (.ref C) m = some (some (.ref f))) (i : PySem.W.isFn K (.ref f) = true) (l : K.lookup f = some ⟨oc, od, .func (PySem.W.fnOf m qual (defArgs st) (defBody st) (defScope st) .none kV doc pm an cdv ct), osl⟩)
    (c : PySem.W.codeIn K cdv qual = true) (k : PySem.W.keepIn K (.ref f) = true) : MAt K C m qual st := ⟨f, _, fun_mk l c k, ⟨a, i, k⟩⟩
/-- the method m of the class at C -/
def MthX (P : Program) (w : World) (K : PySem.W.Frag) (mg : Str → Option Value) (base : Heap) (CX : CXT) (C : Addr) (m : Str) (k : Nat) (ps : List Str) (sp : Sp) : Prop :=
  ∃ f fd, Meth K C m f ∧ FnOk P w K mg base CX k f fd ps sp ∧ Binds K fd ps []
/-! errors with two fields -/
structure TxtE (K : PySem.W.Frag) (mg : Str → Option Value) (CE fI : Addr) (x f1 f2 : Str) : Prop where
  ox : OexC K CE
  n1 : PySem.W.findIn K (.ref CE) f1 = some none
  n2 : PySem.W.findIn K (.ref CE) f2 = some none
  iC : PySem.W.findIn K (.ref CE) "__init__" = some (some (.ref fI))
  tI : PySem.W.typeIn K (.ref fI) = some (.type "function")
  gC : mg x = some (.ref CE)
  xf : XfC K CE
  te : PySem.W.exmOne K (.ref CE) (.ref CE) = some true
def spE2 (CE : Addr) (f1 f2 : Str) : Sp := fun vs H Q _ => ∃ (a : Addr) (v1 v2 : V), vs = [.ref a, v1, v2] ∧ H a = some (exo a CE none) ∧ ∀ d, H d = none → d ≠ a → Q .non (upd (upd (upd H d (exd d [(f1, v1)])) a (exo a CE (some d))) d (exd d [(f2, v2), (f1, v1)]))
/-- an error is out: its fields -/
def Err2 (H H' : Hp) (d : Addr) (fs : List (Str × V)) : Prop := Same H H' ∧ H d = none ∧ H' d = some (.xd fs)
theorem err2_heap {H : Hp} {a d CE : Addr} {f1 f2 : Str} {v1 v2 : V} (ha : H a = none) (hd : (upd H a (exo a CE none)) d = none) (hda : d ≠ a) :
    Err2 H (upd (del (upd (upd (upd (upd H a (exo a CE none)) d (exd d [(f1, v1)])) a (exo a CE (some d))) d (exd d [(f2, v2), (f1, v1)])) a) d (.xd [(f2, v2), (f1, v1)])) d [(f2, v2), (f1, v1)] := by
  have hd' : H d = none := by rw [upd_ne hda] at hd; exact hd
  refine ⟨fun b o e => ?_, hd', upd_same⟩
  have hba : b ≠ a := ne_of_none e ha
  have hbd : b ≠ d := ne_of_none e hd'
  rw [upd_ne hbd, del_ne hba, upd_ne hbd, upd_ne hba, upd_ne hbd, upd_ne hba]
  exact e
abbrev sTI : Stmt := inClass (top 3) 0
abbrev sNI : Stmt := inClass (top 4) 0
theorem scTI : FnScope ["self", "line", "column"] ["self", "line", "column"] (defScope sTI) := ⟨rfl, rfl, rfl, by decide +kernel, rfl, by decide +kernel, by decide +kernel⟩
theorem scNI : FnScope ["self", "what", "number"] ["self", "what", "number"] (defScope sNI) := ⟨rfl, rfl, rfl, by decide +kernel, rfl, by decide +kernel, by decide +kernel⟩
section
variable {P : Program} {w : World} {K : PySem.W.Frag} {mg : Str → Option Value} {base : Heap} {C CE fI : Addr}
theorem ok_TI {fd : FuncData} (F : Fun K "__init__" "BadText.__init__" sTI fI fd) (T : TxtE K mg CE fI "BadText" "line" "column") : FnOk P w K mg base CX0 1 fI fd ["self", "line", "column"] (spE2 CE "line" "column") := by
  refine F.ok scTI (fun vs H Q E h => ?_) (fun cdv A outer s H vs Q E hr h => ?_)
  · obtain ⟨a, v1, v2, rfl, _⟩ := h
    rfl
  · obtain ⟨a, v1, v2, rfl, ha, k⟩ := h
    refine ⟨_, pss_cons (ps_ost (pv 0) (pv 1)) (pss_one (ps_ost (pv 0) (pv 2))), _, rfl, _, rfl, a, CE, rfl, T.ox, T.n1, .inl ⟨ha, fun dx n ne => ?_⟩⟩
    exact ⟨_, rfl, _, rfl, a, CE, rfl, T.ox, T.n2, .inr ⟨dx, _, upd_same, by rw [upd_ne ne]; exact upd_same, by show 1 ≤ 900; decide, k dx n ne⟩⟩
theorem ok_NI {fd : FuncData} (F : Fun K "__init__" "BadNumber.__init__" sNI fI fd) (T : TxtE K mg CE fI "BadNumber" "what" "number") : FnOk P w K mg base CX0 1 fI fd ["self", "what", "number"] (spE2 CE "what" "number") := by
  refine F.ok scNI (fun vs H Q E h => ?_) (fun cdv A outer s H vs Q E hr h => ?_)
  · obtain ⟨a, v1, v2, rfl, _⟩ := h
    rfl
  · obtain ⟨a, v1, v2, rfl, ha, k⟩ := h
    refine ⟨_, pss_cons (ps_ost (pv 0) (pv 1)) (pss_one (ps_ost (pv 0) (pv 2))), _, rfl, _, rfl, a, CE, rfl, T.ox, T.n1, .inl ⟨ha, fun dx n ne => ?_⟩⟩
    exact ⟨_, rfl, _, rfl, a, CE, rfl, T.ox, T.n2, .inr ⟨dx, _, upd_same, by rw [upd_ne ne]; exact upd_same, by show 1 ≤ 900; decide, k dx n ne⟩⟩
end
section
variable {X : Cx} {CX : CXT} {k : Nat} {f C : Addr} {fd : FuncData} {ps : List Str} {sp : Sp} {E : L2.St → XK} {m : Str} {p pos apos : Pos} {e o : Expr} {es : List Expr} {ta : TE} {t : TA}
/-- a method called where what is let out knows the slots -/
def tMethV (C : Addr) (m : Str) (sp : Sp) (E : L2.St → XK) (ta : TE) (t : TA) : TE := fun σ H Q => ta σ H fun x H1 => ∃ a dx fs, x = .ref a ∧ H1 a = some (.ins C dx fs) ∧ fs.lookup m = none ∧
  t σ H1 fun vs H2 => sp (x :: vs) H2 Q (E σ)
theorem pe_methV {pl : Sem Bool} (he : PE X o ta) (c : Cls X.K C) (hm : Meth X.K C m f) (F : FnOk X.prog X.w X.K X.mg X.base CX k f fd ps sp) (hr : Room k X.A) (hb : Binds X.K fd ps []) (hx : ∀ σ, PassesAt CX X σ (E σ)) (ha : PA X (e :: es) t)
    (hst : starEach (e :: es) X.env = (false, eval e X.env) :: starEach es X.env := by rfl) (hpl : (backTo pos (starEach es X.env)).any (·.1) = false := by rfl)
    (ht : eval (.Call (.Attribute o m apos) (e :: es) [] pos) X.env = (do
      let ov ← eval o X.env
      standAt apos.atName
      let (f, first) ← holding [ov] (getMethod ov m pl)
      callWith pos f first (backTo pos (starEach (e :: es) X.env)) (backToKw pos (keywordEach [] X.env))) := by rfl) :
    PE X (.Call (.Attribute o m apos) (e :: es) [] pos) (tMethV C m sp E ta t) := by
  refine ⟨fun pins s σ H Q I h => ?_⟩
  refine PySem.W.methodCall_KW (pl := pl) (thn (he.run pins s σ H _ I h) fun u s1 z => ?_) ht
  obtain ⟨x, H1, I1, rx, a, dx, fs, ex, ea, l, q⟩ := z
  subst ex
  obtain rfl : u = Value.ref a := rx
  refine getmeth_ok I1 ea c hm l ?_
  refine PySem.W.callWith_K (first := [.ref a]) (h₀ := X.base) I.ok.mod.kin hm.kp (thn (ha.run pos pins s1 σ H1 _ I1 q) fun us s2 z2 => ?_) hst hpl
  obtain ⟨vs, H2, I2, r, q2⟩ := z2
  exact ⟨I2.kIn, run_fnS (us := .ref a :: us) (vs := .ref a :: vs) F hr hb (hx σ) I2 (.cons rfl r) q2⟩
end
/-- nothing is let out -/
def EF : XK := fun _ _ _ => False
theorem passF {X : Cx} : Passes (L2.CX X.prog X.w) X EF := passes_call takes0 (fun _ _ _ _ h => h)
theorem passFx {X : Cx} {W : WX} (tk : Takes X W) : Passes (L2.CX X.prog X.w) X EF := passes_call tk (fun _ _ _ _ h => h.elim)
/-! a row of things: a list or a tuple -/
def Sqx (K : PySem.W.Frag) (H : Hp) (l : Addr) (xs : List V) : Prop := SqL K H l xs ∨ SqT K H l xs
theorem SqT_same {K : PySem.W.Frag} {H H' : Hp} {a : Addr} {xs : List V} (h : SqT K H a xs) (s : Same H H') : SqT K H' a xs := by
  rcases h with (h | ⟨o, h⟩) | h
  · exact .inl (.inl (s _ _ h))
  · exact .inl (.inr ⟨o, s _ _ h⟩)
  · exact .inr h
theorem Sqx.same {K : PySem.W.Frag} {H H' : Hp} {a : Addr} {xs : List V} (h : Sqx K H a xs) (s : Same H H') : Sqx K H' a xs := h.imp (fun h => SqL_same h s) fun h => SqT_same h s
section
variable {X : Cx} {tg l e : Expr} {t1 t2 : TI} {u1 u2 : TE}
def iOr (t1 t2 : TI) : TI := fun σ H R => t1 σ H R ∨ t2 σ H R
theorem pi_alt (h1 : PI X tg l t1) (h2 : PI X tg l t2) : PI X tg l (iOr t1 t2) := ⟨fun pins s σ H R I q => q.elim (h1.run pins s σ H R I) (h2.run pins s σ H R I)⟩
def tEor (u1 u2 : TE) : TE := fun σ H Q => u1 σ H Q ∨ u2 σ H Q
theorem pe_alt (h1 : PE X e u1) (h2 : PE X e u2) : PE X e (tEor u1 u2) := ⟨fun pins s σ H Q I q => q.elim (h1.run pins s σ H Q I) (h2.run pins s σ H Q I)⟩
end
end Wq
set_option Elab.async false
set_option linter.all false
set_option maxRecDepth 100000
set_option maxHeartbeats 4000000
namespace Wq
open PySem PySem.Spec PyProof.Rows L2
open SX (S S_len S_cat S_beq_eq)
abbrev sNF : Stmt := top 8
theorem scNF : FnScope ["figures", "many", "rest", "at"] ["figures"] (defScope sNF) := ⟨rfl, rfl, rfl, by decide +kernel, rfl, by decide +kernel, by decide +kernel⟩
structure TxtT (mg : Str → Option Value) : Prop where
  sg : ∃ t, mg "SHORT_FIGURES" = some (.int 3000 t)
  fg : ∃ t, mg "FIGURES" = some (.str (S [48, 49, 50, 51, 52, 53, 54, 55, 56, 57]) t)
def isD (c : Nat) : Bool := decide (48 ≤ c) && decide (c ≤ 57)
def spNF : Sp := fun vs H Q _ => ∃ a : List Nat, vs = [.str (S a)] ∧ a.all isD = true ∧ a ≠ [] ∧ a.length ≤ 600 ∧ Q (.int ((NumText.digitsVal a : Nat) : Int)) H
theorem pgi {X : Cx} {x : Str} {n : Int} {t : Tok} {pos : Pos} (hm : X.mg x = some (.int n t)) (hg : Gl X x := by rfl) (hd : (x == ("__debug__" : Str)) = false := by decide) : PE X (.Name x pos) (tC (.int n)) := pe_glob hg hm ⟨_, rfl⟩ hd
theorem pgs {X : Cx} {x : Str} {z : Str} {t : Tok} {pos : Pos} (hm : X.mg x = some (.str z t)) (hg : Gl X x := by rfl) (hd : (x == ("__debug__" : Str)) = false := by decide) : PE X (.Name x pos) (tC (.str z)) := pe_glob hg hm ⟨_, rfl⟩ hd
section
variable {P : Program} {w : World} {K : PySem.W.Frag} {mg : Str → Option Value} {base : Heap} {C : Addr}
theorem ok_NF (D : DefAt K mg "number_of" sNF) (T : Txt K mg) (TT : TxtT mg) : Cl P w K mg base 1 "number_of" spNF := by
  obtain ⟨tb, hb⟩ := TT.sg
  refine cl_of D scNF (fun vs H Q E h => ?_) (fun _ _ _ _ _ _ us hl => match us, hl with | [_], _ => rfl) (fun f cdv A outer s H vs Q E hr h => ?_)
  · obtain ⟨a, rfl, _⟩ := h
    rfl
  · obtain ⟨a, rfl, had, hne, hal, k⟩ := h
    refine ⟨_, pss_cons (ps_if (pt_cmpR op_le (pe_callB call_len_str (by rfl) (by exact T.len) PySem.boot_len (pa_cons (pv 0) pa_nil)) (pgi (by exact hb)) (nomark _))
(pss_one (ps_ret (pe_callTy call_int_str (by rfl) (by exact T.int) PyProof.Rows.boot_int (pa_cons (pv 0) pa_nil))))
pss_nil)
pss_never, ?_⟩
    refine ⟨_, rfl, _, rfl, by rw [S_len, sizeLine_eq]; omega, _, _, rfl, rfl, _, rfl, ?_⟩
    refine (if_pos (decide_eq_true (by rw [S_len]; omega))).mpr ?_
    exact ⟨_, rfl, S a, _, rfl, SX.int_S had hne (by omega), by rw [S_len]; omega, k⟩
end
/-! cuts of texts -/
theorem cutS_mid (l : List Nat) {i j : Nat} (h : i ≤ j) : cutS (S l) (some (i : Int)) (some (j : Int)) = S ((l.drop i).take (j - i)) := by
  unfold cutS
  rw [HT.sIx_nat, HT.sIx_nat, S_len]
  show S ((l.drop (min i l.length)).take (min j l.length - min i l.length)) = _
  congr 1
  by_cases hi : i ≤ l.length
  · rw [Nat.min_eq_left hi]
    by_cases hj : j ≤ l.length
    · rw [Nat.min_eq_left hj]
    · rw [Nat.min_eq_right (by omega), List.take_of_length_le (by rw [List.length_drop]; omega), List.take_of_length_le (by rw [List.length_drop]; omega)]
  · rw [Nat.min_eq_right (show l.length ≤ i by omega), List.drop_eq_nil_of_le (Nat.le_refl _), List.drop_eq_nil_of_le (by omega), List.take_nil, List.take_nil]
theorem cutS_to (l : List Nat) (j : Nat) : cutS (S l) none (some (j : Int)) = S (l.take j) := by
  have e := cutS_mid l (Nat.zero_le j)
  rw [List.drop_zero, Nat.sub_zero] at e
  rw [← e]
  rfl
theorem cutS_from (l : List Nat) (i : Nat) : cutS (S l) (some (i : Int)) none = S (l.drop i) := by
  unfold cutS
  rw [HT.sIx_nat, S_len]
  show S ((l.drop (min i l.length)).take (l.length - min i l.length)) = _
  congr 1
  by_cases hi : i ≤ l.length
  · rw [Nat.min_eq_left hi, List.take_of_length_le (by rw [List.length_drop]; omega)]
  · rw [Nat.min_eq_right (by omega), List.drop_eq_nil_of_le (Nat.le_refl _), List.drop_eq_nil_of_le (by omega), List.take_nil]
theorem dec_S (a b : List Nat) : decide (V.str (S a) = V.str (S b)) = decide (a = b) := by
  by_cases h : a = b
  · rw [h]; simp
  · rw [decide_eq_false h, decide_eq_false fun z => h (SX.S_inj (V.str.inj z))]
theorem take1 (l : List Nat) (i c : Nat) : ((l.drop i).take 1 = [c]) ↔ l[i]? = some c := by
  have e : (l.drop i)[0]? = l[i]? := by rw [List.getElem?_drop, Nat.add_zero]
  rw [← e]
  cases l.drop i with
  | nil => simp
  | cons a r => simp
theorem fig_in (c : Nat) : decide (c ∈ ([48, 49, 50, 51, 52, 53, 54, 55, 56, 57] : List Nat)) = isD c := by
  unfold isD
  by_cases h : 48 ≤ c ∧ c ≤ 57
  · rw [decide_eq_true h.1, decide_eq_true h.2]
    refine decide_eq_true ?_
    have : c = 48 ∨ c = 49 ∨ c = 50 ∨ c = 51 ∨ c = 52 ∨ c = 53 ∨ c = 54 ∨ c = 55 ∨ c = 56 ∨ c = 57 := by omega
    rcases this with h | h | h | h | h | h | h | h | h | h <;> rw [h] <;> decide
  · have e : (decide (48 ≤ c) && decide (c ≤ 57)) = false := by
      by_cases h1 : 48 ≤ c
      · rw [decide_eq_false (show ¬ c ≤ 57 by omega), Bool.and_false]
      · rw [decide_eq_false h1, Bool.false_and]
    rw [e]
    refine decide_eq_false fun hm => ?_
    simp at hm
    omega
end Wq
set_option Elab.async false
set_option linter.all false
set_option maxRecDepth 100000
set_option maxHeartbeats 4000000
namespace Wq
open PySem PySem.Spec PyProof.Rows L2
open SX (S S_len S_cat S_beq_eq)
/-- figures that begin a number up to a bound -/
def isBg (m : Nat) (a : List Nat) : Bool := a.all isD && ((decide (a = [48]) || !decide (a.head? = some 48)) && decide (NumText.digitsVal a ≤ m))
abbrev sIB : Stmt := top 17
theorem scIB : FnScope ["figures", "most", "sign"] ["figures", "most"] (defScope sIB) := ⟨rfl, rfl, rfl, by decide +kernel, rfl, by decide +kernel, by decide +kernel⟩
def spIB : Sp := fun vs H Q _ => ∃ (a : List Nat) (m : Nat), vs = [.str (S a), nI m] ∧ a ≠ [] ∧ a.length ≤ 500 ∧ ∀ H', Same H H' → Q (.bl (isBg m a)) H'
theorem S_list (a : List Nat) : (S a).cps.toList = a := by simp [S]
theorem S_get (a : List Nat) (i : Nat) : (S a).cps[i]? = a[i]? := by
  show (a.toArray)[i]? = a[i]?
  simp
section
variable {P : Program} {w : World} {K : PySem.W.Frag} {mg : Str → Option Value} {base : Heap} {C : Addr}
theorem ok_IB (D : DefAt K mg "is_beginning" sIB) (T : Txt K mg) (TT : TxtT mg) (CN : Cl P w K mg base 1 "number_of" spNF) : Cl P w K mg base 2 "is_beginning" spIB := by
  obtain ⟨tf, hf⟩ := TT.fg
  refine cl_of D scIB (fun vs H Q E h => ?_) (fun _ _ _ _ _ _ us hl => match us, hl with | [_, _], _ => rfl) (fun f cdv A outer s H vs Q E hr h => ?_)
  · obtain ⟨a, m, rfl, _⟩ := h
    rfl
  · obtain ⟨a, m, rfl, hne, hal, k⟩ := h
    refine ⟨_, pss_cons (ps_if (pt_cmpR op_gt (pe_callB call_len_seq (by rfl) (by exact T.len) PySem.boot_len (pa_cons (pe_lc (own := [("sign", 2)]) (g := gName 2) (by rfl) scIB.nd (pi_str (pv 0)) (blkOk_by (own := [("sign", 2)]) (N := ["figures", "most", "sign"]) (sc := defScope sIB) (by decide +kernel)) (fun _ _ _ _ _ => (pg_name (i := 2) scIB.nd rfl (Or.inl rfl))) (fun _ _ _ _ _ => (pts_one (pt_cmpR op_notIn_sign (pv 2) (pgs (by exact hf)) rfl))) (fun _ _ _ _ _ => (pv 2))) pa_nil)) pe_int (nomark _))
(pss_one (ps_ret pe_bl))
pss_nil)
(pss_one (ps_ret (pe_and (pe_or (pe_cmpR op_eq (pv 0) pe_str (nomark _)) (pe_one (pe_cmpR op_ne (pe_ix ix_str (pv 0) pe_int (fun _ _ => rfl)) pe_str (nomark _)))) (pe_one (pe_cmpR op_le (pe_cl CN hr (by decide) rfl (pa_cons (pv 0) pa_nil)) (pv 1) (nomark _)))))), ?_⟩
    refine ⟨_, rfl, S a, rfl, fun D hD => ?_⟩
    refine lc_it walk_str (fun j G => ∃ xs : List V, Same H G ∧ G D = some (.lst xs) ∧ xs.length ≤ j ∧ ((a.take j).all isD = decide (xs.length = 0))) ⟨[], sNew hD, upd_same, Nat.le_refl _, rfl⟩ (fun _ _ _ _ => trivial) ?_ ?_
    · rintro j y G G2 hj ⟨xs, sm, hD2, hxl, hxa⟩ ⟨rfl, c, hc, rfl⟩
      rw [S_get] at hc
      refine ⟨rfl, _, rfl, c, _, rfl, rfl, _, rfl, ?_⟩
      rw [S_list, fig_in]
      have hj2 := (List.getElem?_eq_some_iff.mp hc).1
      have htk : a.take (j + 1) = a.take j ++ [c] := by rw [List.take_succ, hc]; rfl
      refine ite2 (fun hb => ?_) (fun hb => ?_)
      · have hb : isD c = false := by simpa using hb
        refine ⟨_, rfl, xs, hD2, by rw [sizeLine_eq]; omega, xs ++ [.str ⟨#[c]⟩], sPut sm hD, upd_same, by rw [List.length_append]; show xs.length + 1 ≤ j + 1; omega, ?_⟩
        rw [htk, List.all_append, List.length_append]
        simp [hb]
      · have hb : isD c = true := by simpa using hb
        refine ⟨xs, sm, hD2, by omega, ?_⟩
        rw [htk, List.all_append, hxa]
        simp [hb]
    · rintro G ⟨xs, sm, hD2, hxl, hxa⟩
      have hsz : (S a).cps.size = a.length := S_len a
      rw [hsz, List.take_length] at hxa
      refine ⟨D, _, rfl, .inl (.inl (.inl hD2)), _, _, rfl, rfl, _, rfl, ?_⟩
      have kk := k G sm
      unfold isBg at kk
      refine ite2 (fun hc => ?_) (fun hc => ?_)
      · have hc : ¬ xs.length = 0 := by have := of_decide_eq_true hc; omega
        rw [hxa, decide_eq_false hc] at kk
        exact kk
      · have hc : xs.length = 0 := by
          by_cases z : xs.length = 0
          · exact z
          · exact absurd (decide_eq_true (show (0 : Int) < (xs.length : Int) by omega)) hc
        rw [decide_eq_true hc] at hxa
        rw [hxa] at kk
        have hd := hxa
        rw [Bool.true_and] at kk
        have l48 : V.str "0" = V.str (S [48]) := congrArg V.str (show ("0" : Str) = S [48] by decide +kernel)
        have hle : decide (((NumText.digitsVal a : Nat) : Int) ≤ ((m : Nat) : Int)) = decide (NumText.digitsVal a ≤ m) := decide_eq_decide.mpr (by omega)
        have e48 : decide (V.str (S a) = V.str "0") = decide (a = [48]) := by rw [l48]; exact dec_S a [48]
        refine ⟨_, rfl, rfl, _, rfl, ?_⟩
        rw [e48]
        refine ite2 (fun h1 => ?_) (fun h1 => ?_)
        · rw [h1] at kk
          refine ⟨true, rfl, (if_pos rfl).mpr ?_⟩
          refine ⟨_, rfl, a, rfl, hd, hne, by omega, _, rfl, _, _, rfl, rfl, ?_⟩
          rw [← hle] at kk
          exact kk
        · have h1 : decide (a = [48]) = false := by simpa using h1
          rw [h1, Bool.false_or] at kk
          cases a with
          | nil => exact absurd rfl hne
          | cons c r =>
            have ec : decide (V.str ⟨#[c]⟩ = V.str "0") = decide (c = 48) := by
              rw [l48]
              have := dec_S [c] [48]
              rw [show decide (([c] : List Nat) = [48]) = decide (c = 48) from decide_eq_decide.mpr (by simp)] at this
              exact this
            have eh : decide ((c :: r).head? = some 48) = decide (c = 48) := decide_eq_decide.mpr (by simp)
            rw [eh] at kk
            refine ⟨_, rfl, _, 0, c, rfl, rfl, by rw [S_len, sizeLine_eq]; omega, by rw [S_list]; exact atI_nat (j := 0) rfl, rfl, _, rfl, ?_⟩
            rw [ec]
            refine ite2 (fun h2 => ?_) (fun h2 => ?_)
            · rw [h2, Bool.true_and] at kk
              refine ⟨_, rfl, c :: r, rfl, hd, hne, by omega, _, rfl, _, _, rfl, rfl, ?_⟩
              rw [← hle] at kk
              exact kk
            · have h2 : (!decide (c = 48)) = false := by simpa using h2
              rw [h2, Bool.false_and] at kk
              exact kk
end
end Wq
set_option Elab.async false
set_option linter.all false
set_option maxRecDepth 100000
set_option maxHeartbeats 4000000
namespace Wq
open PySem PySem.Spec PyProof.Rows L2
open SX (S S_len S_cat S_beq_eq)
/-! parts of forms -/
inductive Pt where
  | lit (w : List Nat)
  | num (lo hi : Nat)
def lcp : List Nat → List Nat → Nat
  | a :: as, b :: bs => if a = b then lcp as bs + 1 else 0
  | _, _ => 0
/-- how many figures a number has -/
def gA (hi : Nat) (p : List Nat) : List Nat → Nat
  | [] => 0
  | c :: r => if isBg hi (p ++ [c]) = true then gA hi (p ++ [c]) r + 1 else 0
def rf (t : List Nat) : List Pt → Nat → List Nat → Nat × List Nat
  | [], at_, ns => (if at_ = t.length then t.length + 1 else at_, ns)
  | .lit w :: ps, at_, ns => if lcp w (t.drop at_) = w.length then rf t ps (at_ + w.length) ns else (at_ + lcp w (t.drop at_), ns)
  | .num lo hi :: ps, at_, ns => if gA hi [] (t.drop at_) = 0 ∨ NumText.digitsVal ((t.drop at_).take (gA hi [] (t.drop at_))) < lo then (at_, ns) else rf t ps (at_ + gA hi [] (t.drop at_)) (ns ++ [NumText.digitsVal ((t.drop at_).take (gA hi [] (t.drop at_)))])
theorem lcp_le : ∀ (a b : List Nat), lcp a b ≤ a.length ∧ lcp a b ≤ b.length
  | [], b => ⟨Nat.zero_le _, Nat.zero_le _⟩
  | a :: as, [] => ⟨Nat.zero_le _, Nat.zero_le _⟩
  | a :: as, b :: bs => by
    unfold lcp
    have := lcp_le as bs
    split
    · exact ⟨by show _ + 1 ≤ as.length + 1; omega, by show _ + 1 ≤ bs.length + 1; omega⟩
    · exact ⟨Nat.zero_le _, Nat.zero_le _⟩
theorem lcp_same (c : Nat) (a b : List Nat) : lcp (c :: a) (c :: b) = lcp a b + 1 := by simp [lcp]
theorem gA_yes {hi : Nat} {p r : List Nat} {c : Nat} (h : isBg hi (p ++ [c]) = true) : gA hi p (c :: r) = gA hi (p ++ [c]) r + 1 := by
  unfold gA
  rw [if_pos h]
  cases r <;> rfl
theorem gA_no {hi : Nat} {p r : List Nat} {c : Nat} (h : ¬ isBg hi (p ++ [c]) = true) : gA hi p (c :: r) = 0 := by
  unfold gA
  rw [if_neg h]
theorem gA_le (hi : Nat) : ∀ (p l : List Nat), gA hi p l ≤ l.length
  | p, [] => Nat.le_refl _
  | p, c :: r => by
    unfold gA
    split
    · have := gA_le hi (p ++ [c]) r
      show _ + 1 ≤ r.length + 1
      omega
    · exact Nat.zero_le _
theorem drop_cons {l : List Nat} {i c : Nat} (h : l[i]? = some c) : l.drop i = c :: l.drop (i + 1) := by
  have hi := (List.getElem?_eq_some_iff.mp h).1
  rw [List.drop_eq_getElem_cons hi]
  congr 1
  exact (List.getElem?_eq_some_iff.mp h).2
/-- what stands for the parts of a form -/
def StT (K : PySem.W.Frag) (n : Addr) (xs : List V) : Prop := ∃ (o : Obj) (its : Array Value) (m : Nat), K.lookup n = some o ∧ o.cls = .type "tuple" ∧ o.data = .seq its m ∧ its.size ≤ sizeLine ∧ Vals xs its.toList
theorem StT.sq {K : PySem.W.Frag} {n : Addr} {xs : List V} (h : StT K n xs) {H : Hp} : SqT K H n xs := .inr h
def PtV (K : PySem.W.Frag) (v : V) : Pt → Prop
  | .lit w => v = .str (S w)
  | .num lo hi => ∃ n, v = .ref n ∧ StT K n [nI lo, nI hi]
def FmV (K : PySem.W.Frag) : List V → List Pt → Prop
  | [], [] => True
  | v :: vs, p :: ps => PtV K v p ∧ FmV K vs ps
  | _, _ => False
theorem FmV.len {K : PySem.W.Frag} : ∀ {vs : List V} {ps : List Pt}, FmV K vs ps → vs.length = ps.length
  | [], [], _ => rfl
  | v :: vs, p :: ps, h => congrArg Nat.succ (FmV.len h.2)
theorem FmV.at {K : PySem.W.Frag} : ∀ {vs : List V} {ps : List Pt} {i : Nat} {v : V}, FmV K vs ps → vs[i]? = some v → ∃ p, ps[i]? = some p ∧ PtV K v p
  | [], [], i, v, _, e => by simp at e
  | x :: vs, p :: ps, 0, v, h, e => ⟨p, rfl, by simp at e; subst e; exact h.1⟩
  | x :: vs, p :: ps, i + 1, v, h, e => by
    obtain ⟨q, a, b⟩ := FmV.at (i := i) h.2 (by simpa using e)
    exact ⟨q, by simpa using a, b⟩
theorem FmV.app {K : PySem.W.Frag} : ∀ {vs us : List V} {ps qs : List Pt}, FmV K vs ps → FmV K us qs → FmV K (vs ++ us) (ps ++ qs)
  | [], us, [], qs, _, h => h
  | v :: vs, us, p :: ps, qs, h, h2 => ⟨h.1, FmV.app h.2 h2⟩
abbrev sRF : Stmt := top 16
abbrev NRF : List Str := ["text", "form", "at", "numbers", "part", "sign", "begin"]
theorem scRF : FnScope NRF ["text", "form"] (defScope sRF) := ⟨rfl, rfl, rfl, by decide +kernel, rfl, by decide +kernel, by decide +kernel⟩
def spRF (K : PySem.W.Frag) : Sp := fun vs H Q _ => ∃ (t : List Nat) (fo : Addr) (xs : List V) (ps : List Pt), vs = [.str (S t), .ref fo] ∧ SqT K H fo xs ∧ FmV K xs ps ∧ t.length ≤ 400 ∧ ps.length ≤ 100 ∧ (∀ w, Pt.lit w ∈ ps → w.length ≤ 100) ∧
  ∀ r np G, Same H G → G r = some (.tup [nI (rf t ps 0 []).1, .ref np]) → G np = some (.lst ((rf t ps 0 []).2.map nI)) → Q (.ref r) G
section
variable {P : Program} {w : World} {K : PySem.W.Frag} {mg : Str → Option Value} {base : Heap} {C : Addr}
theorem ok_RF (D : DefAt K mg "read_form" sRF) (T : Txt K mg) (TL : TxtL K mg C) (CN : Cl P w K mg base 1 "number_of" spNF) (CB : Cl P w K mg base 2 "is_beginning" spIB) : Cl P w K mg base 3 "read_form" (spRF K) := by
  refine cl_of D scRF (fun vs H Q E h => ?_) (fun _ _ _ _ _ _ us hl => match us, hl with | [_, _], _ => rfl) (fun f cdv A1 outer s H vs Q E hr h => ?_)
  · obtain ⟨t, fo, xs, ps, rfl, _⟩ := h
    rfl
  · obtain ⟨t, fo, xs, ps, rfl, hx, hF, htl, hpl, hwl, k⟩ := h
    refine ⟨_, pss_cons (ps_set (i := 2) scRF.nd rfl (Or.inl rfl) pe_int)
(pss_cons (ps_set (i := 3) scRF.nd rfl (Or.inl rfl) (pe_lst pa_nil))
(C8.pss_cut (ps_for PassesOwn.never rfl (pi_tup (pv 1)) (pg_name (i := 4) scRF.nd rfl (Or.inl rfl))
(pss_one (ps_if (pt_val (pe_callB call_isi (by rfl) (by exact TL.isi) (by decide +kernel) (pa_cons (pv 4) (pa_cons (pe_bltn rfl (by exact TL.str) (by decide +kernel) (v := .ty "str") rfl) pa_nil))))
(pss_one (ps_for PassesOwn.never rfl (pi_str (pv 4)) (pg_name (i := 5) scRF.nd rfl (Or.inl rfl))
(pss_cons (ps_if (pt_cmpR op_ne (pe_slice sl_str (pv 0) (po_some (pv 2)) (po_some (pe_op op_add (pv 2) pe_int))) (pv 5) (nomark _))
(pss_one (ps_ret (pe_tup (pa_cons (pv 2) (pa_cons (pv 3) pa_nil)))))
pss_nil)
(pss_one (ps_aug (i := 2) scRF.nd rfl (Or.inl rfl) pe_int ip_add)))))
(pss_cons (ps_set (i := 6) scRF.nd rfl (Or.inl rfl) (pv 2))
(C8.pss_cut (ps_while PassesOwn.never (PW.pt (pw_and (pt_cmpR op_lt (pv 2) (pe_callB call_len_str (by rfl) (by exact T.len) PySem.boot_len (pa_cons (pv 0) pa_nil)) (nomark _)) (pw_and1 (pt_val (pe_cl CB hr (by decide) rfl (pa_cons (pe_slice sl_str (pv 0) (po_some (pv 6)) (po_some (pe_op op_add (pv 2) pe_int))) (pa_cons (pe_ix ix_tup (pv 4) pe_int (fun _ _ => rfl)) pa_nil)))))))
(pss_one (ps_aug (i := 2) scRF.nd rfl (Or.inl rfl) pe_int ip_add)))
(pss_cons (ps_if (PW.pt (pw_or (pt_cmpR op_eq (pv 2) (pv 6) (nomark _)) (pw_or1 (pt_cmpR op_lt (pe_cl CN hr (by decide) rfl (pa_cons (pe_slice sl_str (pv 0) (po_some (pv 6)) (po_some (pv 2))) pa_nil)) (pe_ix ix_tup (pv 4) pe_int (fun _ _ => rfl)) (nomark _)))))
(pss_one (ps_ret (pe_tup (pa_cons (pv 6) (pa_cons (pv 3) pa_nil)))))
pss_nil)
(pss_one (ps_expr (pe_bm PySem.F.plainAttrs_list PySem.F.slot_list_append PySem.F.type_list_append mt_append (pv 3) (pa_cons (pe_cl CN hr (by decide) rfl (pa_cons (pe_slice sl_str (pv 0) (po_some (pv 6)) (po_some (pv 2))) pa_nil)) pa_nil))))))))))
(pss_one (ps_ret (pe_tup (pa_cons (pe_ifExp (pt_cmpR op_eq (pv 2) (pe_callB call_len_str (by rfl) (by exact T.len) PySem.boot_len (pa_cons (pv 0) pa_nil)) (nomark _)) (pe_op op_add (pe_callB call_len_str (by rfl) (by exact T.len) PySem.boot_len (pa_cons (pv 0) pa_nil)) pe_int) (pv 2)) (pa_cons (pv 3) pa_nil))))))), ?_⟩
    have hXL := hF.len
    have hzt : (S t).length ≤ sizeLine := by rw [S_len, sizeLine_eq]; omega
    refine ⟨by show 0 ≤ sizeLine; decide, fun np hnp => ?_⟩
    have s0 := sNew (o := .lst []) hnp
    have hR : rf t (ps.drop 0) 0 [] = rf t ps 0 [] := rfl
    generalize rf t ps 0 [] = R at *
    refine ⟨fun σ G => ∃ (at_ : Nat) (ns : List Nat) (x4 x5 x6 : Option V), σ = [some (.str (S t)), some (.ref fo), some (nI at_), some (.ref np), x4, x5, x6] ∧ Same H G ∧ G np = some (.lst (ns.map nI)) ∧ at_ ≤ t.length ∧ rf t [] at_ ns = R, ?_, ?_⟩
    · refine ⟨_, rfl, fo, rfl, ⟨_, SqT_same hx s0⟩, for_tup (K := K) (a := fo) (xs := xs) (fun j σ G => ∃ (at_ : Nat) (ns : List Nat) (x4 x5 x6 : Option V), σ = [some (.str (S t)), some (.ref fo), some (nI at_), some (.ref np), x4, x5, x6] ∧ Same H G ∧ G np = some (.lst (ns.map nI)) ∧ ns.length ≤ j ∧ at_ ≤ t.length ∧ rf t (ps.drop j) at_ ns = R)
        ⟨0, [], _, _, _, rfl, s0, upd_same, Nat.le_refl _, Nat.zero_le _, hR⟩ (fun j σ G _ ⟨_, _, _, _, _, _, sm, _⟩ => SqT_same hx sm) ?_ ?_⟩
      · rintro j v σ G hj ⟨at_, ns, x4, x5, x6, rfl, sm, hnl, hns, hat, hr1⟩
        obtain ⟨p, hp, hv⟩ := hF.at hj
        have hdp : ps.drop j = p :: ps.drop (j + 1) := by
          have hi := (List.getElem?_eq_some_iff.mp hp).1
          rw [List.drop_eq_getElem_cons hi]
          congr 1
          exact (List.getElem?_eq_some_iff.mp hp).2
        have hjl : j < ps.length := (List.getElem?_eq_some_iff.mp hp).1
        rw [hdp] at hr1
        cases p with
        | lit w =>
          have hv : v = .str (S w) := hv
          subst hv
          have hw := hwl w (List.mem_of_getElem? hp)
          refine ⟨_, rfl, .str (S w), .ty "str", _, _, _, rfl, .ty "str", .base (.str _), kit_ty (r := true) (by decide +kernel), true, rfl, ?_⟩
          refine (if_pos rfl).mpr ?_
          refine ⟨_, rfl, S w, rfl, for_it walk_str (fun k' σ G' => ∃ x5 : Option V, σ = [some (.str (S t)), some (.ref fo), some (nI (at_ + k')), some (.ref np), some (.str (S w)), x5, x6] ∧ G' = G ∧ at_ + k' ≤ t.length ∧ k' + lcp (w.drop k') (t.drop (at_ + k')) = lcp w (t.drop at_))
            ⟨_, rfl, rfl, hat, by rw [Nat.zero_add]; rfl⟩ (fun _ _ _ _ _ => trivial) ?_ ?_⟩
          · rintro k' y σ G1 G2 hk ⟨y5, rfl, rfl, hle, hlc⟩ ⟨rfl, c, hc, rfl⟩
            rw [S_get] at hc
            have hkw := (List.getElem?_eq_some_iff.mp hc).1
            have hdw := drop_cons hc
            refine ⟨_, rfl, _, rfl, _, rfl, _, rfl, _, _, rfl, rfl, _, rfl, S t, rfl, hzt, _, rfl, rfl, _, rfl, ?_⟩
            have hcut : cutS (S t) (some ((at_ + k' : Nat) : Int)) (some (((at_ + k' : Nat) : Int) + 1)) = S ((t.drop (at_ + k')).take 1) := by
              rw [show ((at_ + k' : Nat) : Int) + 1 = ((at_ + k' + 1 : Nat) : Int) by omega, cutS_mid t (by omega), show at_ + k' + 1 - (at_ + k') = 1 by omega]
            have hdec : decide (V.str (cutS (S t) (some ((at_ + k' : Nat) : Int)) (some (((at_ + k' : Nat) : Int) + 1))) = V.str ⟨#[c]⟩) = decide (t[at_ + k']? = some c) := by
              rw [hcut]
              have := dec_S ((t.drop (at_ + k')).take 1) [c]
              rw [show decide ((t.drop (at_ + k')).take 1 = [c]) = decide (t[at_ + k']? = some c) from decide_eq_decide.mpr (take1 t (at_ + k') c)] at this
              exact this
            rw [hdec]
            refine ite2 (fun hb => ?_) (fun hb => ?_)
            · have hb : ¬ t[at_ + k']? = some c := by simpa using hb
              have h0 : lcp (w.drop k') (t.drop (at_ + k')) = 0 := by
                rw [hdw]
                cases ht : t.drop (at_ + k') with
                | nil => rfl
                | cons d r =>
                  unfold lcp
                  have hd : t[at_ + k']? = some d := by
                    have : (t.drop (at_ + k'))[0]? = some d := by rw [ht]; rfl
                    rwa [List.getElem?_drop, Nat.add_zero] at this
                  rw [if_neg]
                  intro z
                  exact hb (by rw [hd, z])
              rw [h0, Nat.add_zero] at hlc
              unfold rf at hr1
              rw [← hlc, if_neg (show ¬ k' = w.length by omega)] at hr1
              subst hr1
              refine ⟨_, rfl, _, rfl, by show 2 ≤ sizeLine; decide, fun r hrr => ?_⟩
              have sr := sNew (o := .tup [nI (at_ + k'), .ref np]) hrr
              exact k r np _ (sm.trans sr) upd_same (sr _ _ hnl)
            · have hb : t[at_ + k']? = some c := by simpa using hb
              have htl2 := (List.getElem?_eq_some_iff.mp hb).1
              refine ⟨_, rfl, _, _, rfl, rfl, ?_⟩
              have e : ((at_ + k' : Nat) : Int) + 1 = ((at_ + (k' + 1) : Nat) : Int) := by omega
              refine ⟨some (.str ⟨#[c]⟩), congrArg (fun z => [some (V.str (S t)), some (.ref fo), some (V.int z), some (.ref np), some (.str (S w)), some (.str ⟨#[c]⟩), x6]) e, rfl, by omega, ?_⟩
              rw [hdw, drop_cons hb, lcp_same] at hlc
              rw [show at_ + (k' + 1) = at_ + k' + 1 by omega]
              omega
          · rintro σ G1 ⟨y5, rfl, rfl, hle, hlc⟩
            have hsz : (S w).cps.size = w.length := S_len w
            rw [hsz] at hle hlc ⊢
            rw [List.drop_length] at hlc
            have h0 : lcp [] (t.drop (at_ + w.length)) = 0 := rfl
            rw [h0] at hlc
            unfold rf at hr1
            rw [if_pos (by omega)] at hr1
            exact ⟨_, ns, _, _, _, rfl, sm, hnl, by omega, hle, hr1⟩
        | num lo hi =>
          obtain ⟨n, rfl, hn⟩ := hv
          obtain ⟨ob, its, mm, hn1, hn2, _⟩ := id hn
          refine ⟨_, rfl, .ref n, .ty "str", _, _, _, rfl, .ty "str", .kTuple hn1 hn2, kit_ty (r := false) (by decide +kernel), false, rfl, ?_⟩
          refine (if_neg (by decide)).mpr ?_
          refine ⟨_, rfl, ?_⟩
          unfold rf at hr1
          have hll : (t.drop at_).length = t.length - at_ := List.length_drop ..
          have hslice : ∀ m : Nat, cutS (S t) (some ((at_ : Nat) : Int)) (some (((at_ + m : Nat) : Int))) = S ((t.drop at_).take m) := fun m => by
            rw [cutS_mid t (by omega), show at_ + m - at_ = m by omega]
          generalize hl : t.drop at_ = l at *
          refine ⟨fun σ G' => σ = [some (.str (S t)), some (.ref fo), some (nI (at_ + gA hi [] l)), some (.ref np), some (.ref n), x5, some (nI at_)] ∧ Same G G' ∧ (gA hi [] l = 0 ∨ isBg hi (l.take (gA hi [] l)) = true), ?_, ?_⟩
          · refine ⟨fun z σ G' => ∃ m : Nat, σ = [some (.str (S t)), some (.ref fo), some (nI (at_ + m)), some (.ref np), some (.ref n), x5, some (nI at_)] ∧ Same G G' ∧ z = l.length - m ∧ m ≤ l.length ∧ m + gA hi (l.take m) (l.drop m) = gA hi [] l ∧ (m = 0 ∨ isBg hi (l.take m) = true), ⟨l.length, 0, rfl, .refl _, rfl, Nat.zero_le _, by rw [Nat.zero_add]; rfl, .inl rfl⟩, ?_⟩
            rintro z σ G' ⟨m, rfl, sg, rfl, hml, hga, hbg⟩
            refine ⟨_, rfl, _, rfl, S t, rfl, hzt, _, _, rfl, rfl, _, rfl, ?_⟩
            have hSt : (S t).length = t.length := S_len t
            refine ite2 (fun hc => ?_) (fun hc => ?_)
            · have hc : m < l.length := by have := of_decide_eq_true hc; omega
              obtain ⟨c, hcc⟩ : ∃ c, l[m]? = some c := ⟨l[m], List.getElem?_eq_getElem hc⟩
              have htk : l.take (m + 1) = l.take m ++ [c] := by rw [List.take_succ, hcc]; rfl
              rw [drop_cons hcc] at hga
              refine ⟨_, rfl, _, rfl, _, rfl, _, rfl, _, _, rfl, rfl, _, rfl, S t, rfl, hzt, _, rfl, n, _, 1, _, rfl, rfl, hn.sq, by rfl, l.take (m + 1), hi, ?_, ?_, ?_, fun G2 s2 => ⟨_, rfl, ?_⟩⟩
              · have e := hslice (m + 1)
                rw [show ((at_ + (m + 1) : Nat) : Int) = ((at_ + m : Nat) : Int) + 1 by omega] at e
                exact congrArg (fun z => [V.str z, nI hi]) e
              · rw [htk]; simp
              · rw [List.length_take]; omega
              · refine ite2 (fun hb => ?_) (fun hb => ?_)
                · have hb2 := hb
                  rw [htk] at hb2
                  rw [gA_yes hb2] at hga
                  refine ⟨_, fun σ' H' h => h, _, rfl, _, _, rfl, rfl, ?_⟩
                  refine ⟨l.length - (m + 1), by omega, m + 1, ?_, sg.trans s2, rfl, by omega, by rw [htk]; omega, .inr hb⟩
                  have e : ((at_ + m : Nat) : Int) + 1 = ((at_ + (m + 1) : Nat) : Int) := by omega
                  exact congrArg (fun z => [some (V.str (S t)), some (.ref fo), some (V.int z), some (.ref np), some (.ref n), x5, some (nI at_)]) e
                · have hb2 := hb
                  rw [htk] at hb2
                  rw [gA_no hb2, Nat.add_zero] at hga
                  subst hga
                  exact ⟨rfl, sg.trans s2, hbg⟩
            · have hc : m = l.length := by
                by_cases z : m = l.length
                · exact z
                · exact absurd (decide_eq_true (show ((at_ + m : Nat) : Int) < ((S t).length : Int) by omega)) hc
              rw [hc, List.drop_length] at hga
              have hg0 : gA hi (l.take l.length) [] = 0 := rfl
              rw [hg0, Nat.add_zero] at hga
              rw [hc, hga] at hbg
              rw [hc, hga]
              exact ⟨rfl, sg, hbg⟩
          · rintro σ G' ⟨rfl, sg, hbg⟩
            have hgl := gA_le hi [] l
            have hm0 := hslice (gA hi [] l)
            generalize gA hi [] l = m at *
            have sA := sm.trans sg
            refine ⟨_, rfl, _, rfl, rfl, _, rfl, ?_⟩
            have e0 : decide (V.int ((at_ + m : Nat) : Int) = V.int ((at_ : Nat) : Int)) = decide (m = 0) := by
              refine decide_eq_decide.mpr ⟨fun z => ?_, fun z => by rw [z]; rfl⟩
              have := V.int.inj z
              omega
            rw [e0]
            have fin : ∀ ret : (nI at_ = nI at_), (at_, ns) = R → ∀ r G3, Same G' G3 → G3 r = some (.tup [nI at_, .ref np]) → Q (.ref r) G3 := fun _ eR r G3 s3 hr3 => by
              subst eR
              exact k r np G3 (sA.trans s3) hr3 (s3 _ _ (sg _ _ hnl))
            refine ite2 (fun hz => ?_) (fun hz => ?_)
            · have hz : m = 0 := of_decide_eq_true hz
              rw [if_pos (.inl hz)] at hr1
              exact ⟨_, rfl, _, rfl, by show 2 ≤ sizeLine; decide, fun r hrr => fin rfl hr1 r _ (sNew hrr) upd_same⟩
            · have hz : ¬ m = 0 := fun z => hz (decide_eq_true z)
              have hbg := hbg.resolve_left hz
              have hda : (l.take m).all isD = true := by
                unfold isBg at hbg
                exact (Bool.and_eq_true_iff.mp hbg).1
              have hne : l.take m ≠ [] := fun z => by
                have h1 : (l.take m).length = 0 := by rw [z]; rfl
                rw [List.length_take] at h1
                omega
              have hlt : (l.take m).length ≤ 600 := by rw [List.length_take]; omega
              refine ⟨_, rfl, _, rfl, _, rfl, _, rfl, _, rfl, S t, rfl, hzt, l.take m, congrArg (fun z => [V.str z]) hm0, hda, hne, hlt, _, rfl, n, _, 0, _, rfl, rfl, hn.sq, by rfl, _, _, rfl, rfl, _, rfl, ?_⟩
              have e1 : decide (((NumText.digitsVal (l.take m) : Nat) : Int) < ((lo : Nat) : Int)) = decide (NumText.digitsVal (l.take m) < lo) := decide_eq_decide.mpr (by omega)
              rw [e1]
              refine ite2 (fun hb => ?_) (fun hb => ?_)
              · have hb := of_decide_eq_true hb
                rw [if_pos (.inr hb)] at hr1
                exact ⟨_, rfl, _, rfl, by show 2 ≤ sizeLine; decide, fun r hrr => fin rfl hr1 r _ (sNew hrr) upd_same⟩
              · have hb := fun z => hb (decide_eq_true z)
                rw [if_neg (fun z => z.elim hz hb)] at hr1
                have hnl2 := sg _ _ hnl
                refine ⟨_, rfl, .inl ⟨rfl, _, .inl (.inl hnl2)⟩, _, rfl, _, rfl, _, rfl, _, rfl, _, rfl, S t, rfl, hzt, l.take m, congrArg (fun z => [V.str z]) hm0, hda, hne, hlt, np, _, _, rfl, rfl, hnl2, by rw [List.length_map, sizeLine_eq]; omega, ?_⟩
                exact ⟨at_ + m, ns ++ [NumText.digitsVal (l.take m)], _, _, _, rfl, sPut sA hnp, by rw [upd_same, List.map_append]; rfl, by rw [List.length_append]; show ns.length + 1 ≤ j + 1; omega, by omega, hr1⟩
      · rintro σ G ⟨at_, ns, x4, x5, x6, rfl, sm, hnl, hns, hat, hr1⟩
        rw [hXL, List.drop_length] at hr1
        exact ⟨at_, ns, _, _, _, rfl, sm, hnl, hat, hr1⟩
    · rintro σ G ⟨at_, ns, x4, x5, x6, rfl, sm, hnl, hat, hr1⟩
      unfold rf at hr1
      refine ⟨_, rfl, _, rfl, S t, rfl, hzt, rfl, _, rfl, ?_⟩
      have hSt : (S t).length = t.length := S_len t
      have e0 : decide (V.int ((at_ : Nat) : Int) = V.int (((S t).length : Nat) : Int)) = decide (at_ = t.length) := by
        refine decide_eq_decide.mpr ⟨fun z => ?_, fun z => by rw [z, hSt]⟩
        have := V.int.inj z
        omega
      rw [e0]
      refine ite2 (fun hz => ?_) (fun hz => ?_)
      · have hz : at_ = t.length := of_decide_eq_true hz
        rw [if_pos hz] at hr1
        subst hr1
        refine ⟨_, rfl, S t, rfl, hzt, _, _, rfl, rfl, _, rfl, by show 2 ≤ sizeLine; decide, fun r hrr => ?_⟩
        refine k r np _ (sm.trans (sNew hrr)) ?_ (sNew hrr _ _ hnl)
        rw [upd_same]
        have e : (((S t).length : Nat) : Int) + 1 = ((t.length + 1 : Nat) : Int) := by omega
        exact congrArg (fun z => some (HO.tup [V.int z, .ref np])) e
      · have hz : ¬ at_ = t.length := fun z => hz (decide_eq_true z)
        rw [if_neg hz] at hr1
        subst hr1
        exact ⟨_, rfl, _, rfl, by show 2 ≤ sizeLine; decide, fun r hrr => k r np _ (sm.trans (sNew hrr)) upd_same (sNew hrr _ _ hnl)⟩
end
end Wq
set_option Elab.async false
set_option linter.all false
set_option maxRecDepth 100000
set_option maxHeartbeats 4000000
namespace Wq
open PySem PySem.Spec PyProof.Rows L2
open SX (S S_len S_cat S_beq_eq)
/-! the text of a layout, and how it is read -/
def cBlk : Bool → List Nat
  | false => [98, 108, 111, 99, 107, 115, 32, 111, 102, 32]
  | true => [98, 108, 111, 99, 107, 115, 32, 102, 114, 101, 101, 32, 116, 111, 32]
def cExc : List Nat := [10, 101, 120, 99, 101, 112, 116, 105, 111, 110, 115, 32]
def cOf : List Nat := [32, 111, 102, 32]
def cBits : List Nat := [32, 98, 105, 116, 115]
def cHead : List Nat := [10, 104, 101, 97, 100, 32]
def tEx (E X : Nat) : List Nat := if 0 < E then cExc ++ (TL.numL E ++ (cOf ++ (TL.numL X ++ cBits))) else []
def tHd (hd : Int) : List Nat := if 0 ≤ hd then cHead ++ (TL.numL hd.toNat ++ cBits) else []
def Tx (y : Ly) (hd : Int) : List Nat := cBlk y.fr ++ (TL.numL y.B ++ (tEx y.E y.X ++ tHd hd))
def pExc : Bool → List Pt
  | false => []
  | true => [.lit cExc, .num 1 4, .lit cOf, .num 1 24, .lit cBits]
def pHd : Bool → List Pt
  | false => []
  | true => [.lit cHead, .num 0 64, .lit cBits]
def fmP (fr ex he : Bool) : List Pt := [.lit (cBlk fr), .num 1 16] ++ (pExc ex ++ pHd he)
theorem lcp_pre : ∀ (w r : List Nat), lcp w (w ++ r) = w.length
  | [], r => by cases r <;> rfl
  | a :: w, r => by
    rw [List.cons_append, lcp_same, lcp_pre w r]
    rfl
theorem rf_lit {t pre w r : List Nat} {ps : List Pt} {ns : List Nat} (h : t = pre ++ (w ++ r)) : rf t (.lit w :: ps) pre.length ns = rf t ps (pre ++ w).length ns := by
  have e : t.drop pre.length = w ++ r := by rw [h, List.drop_left]
  rw [rf, e, lcp_pre, if_pos rfl, List.length_append]
theorem rf_litN {t pre w r : List Nat} {ps : List Pt} {ns : List Nat} (h : t = pre ++ r) (hn : lcp w r ≠ w.length) : (rf t (.lit w :: ps) pre.length ns).1 ≤ t.length := by
  have e : t.drop pre.length = r := by rw [h, List.drop_left]
  rw [rf, e, if_neg hn]
  have := (lcp_le w r).2
  show pre.length + lcp w r ≤ t.length
  rw [h, List.length_append]
  omega
theorem rf_end {t : List Nat} {ns : List Nat} : rf t [] t.length ns = (t.length + 1, ns) := by
  rw [rf, if_pos rfl]
theorem rf_endN {t pre r : List Nat} {ns : List Nat} (h : t = pre ++ r) (hr : r ≠ []) : (rf t [] pre.length ns).1 ≤ t.length := by
  have hl : 0 < r.length := List.length_pos_iff.mpr hr
  rw [rf, if_neg (by rw [h, List.length_append]; omega)]
  show pre.length ≤ t.length
  rw [h, List.length_append]
  omega
/-- what follows a number -/
def Stop (r : List Nat) : Prop := r = [] ∨ ∃ c r', r = c :: r' ∧ isD c = false
theorem isD_fig {k : Nat} (h : k < 10) : isD (48 + k) = true := by
  unfold isD
  simp
  omega
theorem gA_stop {hi : Nat} {p r : List Nat} (h : Stop r) : gA hi p r = 0 := by
  rcases h with h | ⟨c, r', h, hc⟩
  · subst h; rfl
  · subst h
    refine gA_no ?_
    unfold isBg
    rw [List.all_append]
    simp [hc]
theorem isBg_num {hi n : Nat} (h : n ≤ hi) (hn : n < 100) : isBg hi (TL.numL n) = true := by
  unfold isBg
  rw [TL.numL_val]
  by_cases h9 : n < 10
  · rw [TL.numL_lt h9]
    simp [isD_fig h9, h]
  · rw [TL.numL_step (by omega), TL.numL_lt (show n / 10 < 10 by omega)]
    simp [isD_fig (show n / 10 < 10 by omega), isD_fig (show n % 10 < 10 by omega), h]
    omega
theorem gA_num {hi n : Nat} {r : List Nat} (h : n ≤ hi) (hn : n < 100) (hr : Stop r) : gA hi [] (TL.numL n ++ r) = (TL.numL n).length := by
  have hb := isBg_num h hn
  by_cases h9 : n < 10
  · rw [TL.numL_lt h9] at hb ⊢
    show gA hi [] ((48 + n) :: r) = 1
    rw [gA_yes hb, gA_stop hr]
  · have hb1 := isBg_num (hi := hi) (n := n / 10) (by omega) (by omega)
    rw [TL.numL_step (show 10 ≤ n by omega), TL.numL_lt (show n / 10 < 10 by omega)] at hb ⊢
    rw [TL.numL_lt (show n / 10 < 10 by omega)] at hb1
    show gA hi [] ((48 + n / 10) :: (48 + n % 10) :: r) = 2
    rw [gA_yes hb1, List.nil_append, gA_yes hb, gA_stop hr]
theorem rf_num {t pre r : List Nat} {n lo hi : Nat} {ps : List Pt} {ns : List Nat} (h : t = pre ++ (TL.numL n ++ r)) (h1 : lo ≤ n) (h2 : n ≤ hi) (hn : n < 100) (hr : Stop r) : rf t (.num lo hi :: ps) pre.length ns = rf t ps (pre ++ TL.numL n).length (ns ++ [n]) := by
  have e : t.drop pre.length = TL.numL n ++ r := by rw [h, List.drop_left]
  have hl : 0 < (TL.numL n).length := List.length_pos_iff.mpr (TL.numL_ne n)
  rw [rf, e, gA_num h2 hn hr, List.take_left, TL.numL_val, if_neg (by omega), List.length_append]
theorem stop_tl (r : List Nat) {c : Nat} (h : isD c = false) : Stop (c :: r) := .inr ⟨c, r, rfl, h⟩
theorem stop_hd (hd : Int) : Stop (tHd hd) := by
  unfold tHd
  split
  · exact stop_tl _ (by decide)
  · exact .inl rfl
theorem stop_eh (E X : Nat) (hd : Int) : Stop (tEx E X ++ tHd hd) := by
  unfold tEx
  split
  · exact stop_tl _ (by decide)
  · exact stop_hd hd
structure PaOk (y : Ly) (hd : Int) : Prop where
  ok : y.Ok
  ex : 0 < y.E → 1 ≤ y.X
  h64 : hd ≤ 64
  ho : HdOk y hd
def nsOf (y : Ly) (hd : Int) : List Nat := [y.B] ++ ((if 0 < y.E then [y.E, y.X] else []) ++ (if 0 ≤ hd then [hd.toNat] else []))
def exB (y : Ly) : Bool := decide (0 < y.E)
def heB (hd : Int) : Bool := decide (0 ≤ hd)
/-- the beginning of any form of the right kind -/
theorem rf_begin {y : Ly} {hd : Int} (h : PaOk y hd) (ps : List Pt) : rf (Tx y hd) ([.lit (cBlk y.fr), .num 1 16] ++ ps) 0 [] = rf (Tx y hd) ps (cBlk y.fr ++ TL.numL y.B).length [y.B] := by
  have ok := h.ok
  have e1 := rf_lit (t := Tx y hd) (pre := []) (w := cBlk y.fr) (r := TL.numL y.B ++ (tEx y.E y.X ++ tHd hd)) (ps := .num 1 16 :: ps) (ns := []) rfl
  have e2 := rf_num (t := Tx y hd) (pre := cBlk y.fr) (n := y.B) (r := tEx y.E y.X ++ tHd hd) (lo := 1) (hi := 16) (ps := ps) (ns := []) rfl ok.b1 ok.b16 (by have := ok.b16; omega) (stop_eh _ _ _)
  rw [List.nil_append] at e1
  exact e1.trans e2
theorem rf_exc {y : Ly} {hd : Int} (h : PaOk y hd) (he : 0 < y.E) (ps : List Pt) (ns : List Nat) : ∃ pre, Tx y hd = pre ++ tHd hd ∧ rf (Tx y hd) ([.lit cExc, .num 1 4, .lit cOf, .num 1 24, .lit cBits] ++ ps) (cBlk y.fr ++ TL.numL y.B).length ns = rf (Tx y hd) ps pre.length (ns ++ [y.E, y.X]) := by
  have ok := h.ok
  have hT : Tx y hd = (cBlk y.fr ++ TL.numL y.B) ++ (cExc ++ (TL.numL y.E ++ (cOf ++ (TL.numL y.X ++ (cBits ++ tHd hd))))) := by
    unfold Tx tEx
    rw [if_pos he]
    simp only [List.append_assoc]
  generalize hp : cBlk y.fr ++ TL.numL y.B = p at *
  have e1 := rf_lit (t := Tx y hd) (pre := p) (w := cExc) (ps := [.num 1 4, .lit cOf, .num 1 24, .lit cBits] ++ ps) (ns := ns) hT
  have e2 := rf_num (t := Tx y hd) (pre := p ++ cExc) (n := y.E) (lo := 1) (hi := 4) (ps := [.lit cOf, .num 1 24, .lit cBits] ++ ps) (ns := ns) (r := cOf ++ (TL.numL y.X ++ (cBits ++ tHd hd))) (by rw [hT]; simp only [List.append_assoc]) he ok.e (by have := ok.e; omega) (stop_tl _ (by decide))
  have e3 := rf_lit (t := Tx y hd) (pre := p ++ cExc ++ TL.numL y.E) (w := cOf) (ps := [.num 1 24, .lit cBits] ++ ps) (ns := ns ++ [y.E]) (r := TL.numL y.X ++ (cBits ++ tHd hd)) (by rw [hT]; simp only [List.append_assoc])
  have e4 := rf_num (t := Tx y hd) (pre := p ++ cExc ++ TL.numL y.E ++ cOf) (n := y.X) (lo := 1) (hi := 24) (ps := [.lit cBits] ++ ps) (ns := ns ++ [y.E]) (r := cBits ++ tHd hd) (by rw [hT]; simp only [List.append_assoc]) (h.ex he) ok.x (by have := ok.x; omega) (stop_tl _ (by decide))
  have e5 := rf_lit (t := Tx y hd) (pre := p ++ cExc ++ TL.numL y.E ++ cOf ++ TL.numL y.X) (w := cBits) (ps := ps) (ns := ns ++ [y.E] ++ [y.X]) (r := tHd hd) (by rw [hT]; simp only [List.append_assoc])
  refine ⟨p ++ cExc ++ TL.numL y.E ++ cOf ++ TL.numL y.X ++ cBits, by rw [hT]; simp only [List.append_assoc], ?_⟩
  have e := e1.trans (e2.trans (e3.trans (e4.trans e5)))
  rw [show ns ++ [y.E] ++ [y.X] = ns ++ [y.E, y.X] by simp] at e
  exact e
theorem rf_head {y : Ly} {hd : Int} (h : PaOk y hd) (h0 : 0 ≤ hd) {pre : List Nat} (hT : Tx y hd = pre ++ tHd hd) (ns : List Nat) : rf (Tx y hd) [.lit cHead, .num 0 64, .lit cBits] pre.length ns = ((Tx y hd).length + 1, ns ++ [hd.toNat]) := by
  have hT2 : Tx y hd = pre ++ (cHead ++ (TL.numL hd.toNat ++ (cBits ++ []))) := by
    rw [hT]
    unfold tHd
    rw [if_pos h0, List.append_nil]
  have h64 := h.h64
  have e1 := rf_lit (t := Tx y hd) (pre := pre) (w := cHead) (ps := [.num 0 64, .lit cBits]) (ns := ns) hT2
  have e2 := rf_num (t := Tx y hd) (pre := pre ++ cHead) (n := hd.toNat) (lo := 0) (hi := 64) (ps := [.lit cBits]) (ns := ns) (r := cBits ++ []) (by rw [hT2]; simp only [List.append_assoc]) (Nat.zero_le _) (by omega) (by omega) (stop_tl _ (by decide))
  have e3 := rf_lit (t := Tx y hd) (pre := pre ++ cHead ++ TL.numL hd.toNat) (w := cBits) (ps := []) (ns := ns ++ [hd.toNat]) (r := []) (by rw [hT2]; simp only [List.append_assoc])
  have e4 : (pre ++ cHead ++ TL.numL hd.toNat ++ cBits) = Tx y hd := by rw [hT2]; simp only [List.append_assoc, List.append_nil]
  rw [e4, rf_end] at e3
  exact e1.trans (e2.trans e3)
/-- the right form reads it -/
theorem rf_right {y : Ly} {hd : Int} (h : PaOk y hd) : rf (Tx y hd) (fmP y.fr (exB y) (heB hd)) 0 [] = ((Tx y hd).length + 1, nsOf y hd) := by
  unfold fmP
  rw [rf_begin h]
  by_cases he : 0 < y.E
  · obtain ⟨pre, hT, e⟩ := rf_exc h he (pHd (heB hd)) [y.B]
    have e1 : exB y = true := decide_eq_true he
    rw [e1]
    show rf (Tx y hd) ([.lit cExc, .num 1 4, .lit cOf, .num 1 24, .lit cBits] ++ pHd (heB hd)) _ _ = _
    rw [e]
    by_cases h0 : 0 ≤ hd
    · have e2 : heB hd = true := decide_eq_true h0
      rw [e2]
      show rf (Tx y hd) [.lit cHead, .num 0 64, .lit cBits] _ _ = _
      rw [rf_head h h0 hT]
      unfold nsOf
      rw [if_pos he, if_pos h0]
      rfl
    · have e2 : heB hd = false := decide_eq_false h0
      rw [e2]
      have hn : tHd hd = [] := by unfold tHd; rw [if_neg h0]
      rw [hn, List.append_nil] at hT
      show rf (Tx y hd) [] _ _ = _
      rw [← hT, rf_end]
      unfold nsOf
      rw [if_pos he, if_neg h0]
      rfl
  · have e1 : exB y = false := decide_eq_false he
    have hx : tEx y.E y.X = [] := by unfold tEx; rw [if_neg he]
    have hT : Tx y hd = (cBlk y.fr ++ TL.numL y.B) ++ tHd hd := by unfold Tx; rw [hx]; simp only [List.append_assoc, List.nil_append]
    rw [e1]
    show rf (Tx y hd) (pHd (heB hd)) _ _ = _
    by_cases h0 : 0 ≤ hd
    · have e2 : heB hd = true := decide_eq_true h0
      rw [e2]
      show rf (Tx y hd) [.lit cHead, .num 0 64, .lit cBits] _ _ = _
      rw [rf_head h h0 hT]
      unfold nsOf
      rw [if_neg he, if_pos h0]
      rfl
    · have e2 : heB hd = false := decide_eq_false h0
      have hn : tHd hd = [] := by unfold tHd; rw [if_neg h0]
      rw [hn, List.append_nil] at hT
      rw [e2]
      show rf (Tx y hd) [] _ _ = _
      rw [← hT, rf_end]
      unfold nsOf
      rw [if_neg he, if_neg h0]
      rfl
/-- forms that come ahead of it do not -/
theorem rf_wrong {y : Ly} {hd : Int} (h : PaOk y hd) (fr ex he : Bool) (hw : (fr = false ∧ y.fr = true) ∨ (fr = y.fr ∧ ((ex = false ∧ exB y = true) ∨ (ex = exB y ∧ he = false ∧ heB hd = true)))) : (rf (Tx y hd) (fmP fr ex he) 0 []).1 ≤ (Tx y hd).length := by
  rcases hw with ⟨rfl, hf⟩ | ⟨rfl, hw⟩
  · unfold fmP
    refine rf_litN (t := Tx y hd) (pre := []) (w := cBlk false) (r := Tx y hd) rfl ?_
    unfold Tx
    rw [hf]
    intro z
    cases z
  · unfold fmP
    rw [rf_begin h]
    rcases hw with ⟨rfl, he1⟩ | ⟨rfl, rfl, hh⟩
    · have hE : 0 < y.E := of_decide_eq_true he1
      have hT : Tx y hd = (cBlk y.fr ++ TL.numL y.B) ++ (tEx y.E y.X ++ tHd hd) := by unfold Tx; simp only [List.append_assoc]
      have hne : tEx y.E y.X ++ tHd hd ≠ [] := by
        unfold tEx
        rw [if_pos hE]
        intro z
        cases z
      cases he with
      | false => exact rf_endN hT hne
      | true =>
        refine rf_litN hT ?_
        unfold tEx
        rw [if_pos hE]
        intro z
        cases z
    · have h0 : 0 ≤ hd := of_decide_eq_true hh
      have hne : tHd hd ≠ [] := by
        unfold tHd
        rw [if_pos h0]
        intro z
        cases z
      by_cases hE : 0 < y.E
      · obtain ⟨pre, hT, e⟩ := rf_exc h hE [] [y.B]
        have e1 : exB y = true := decide_eq_true hE
        rw [e1]
        show (rf (Tx y hd) ([.lit cExc, .num 1 4, .lit cOf, .num 1 24, .lit cBits] ++ []) _ _).1 ≤ _
        rw [e]
        exact rf_endN hT hne
      · have e1 : exB y = false := decide_eq_false hE
        have hx : tEx y.E y.X = [] := by unfold tEx; rw [if_neg hE]
        have hT : Tx y hd = (cBlk y.fr ++ TL.numL y.B) ++ tHd hd := by unfold Tx; rw [hx]; simp only [List.append_assoc, List.nil_append]
        rw [e1]
        exact rf_endN hT hne
theorem num_len2 {n : Nat} (h : n < 100) : (TL.numL n).length ≤ 2 := TL.numL_len (by decide) h
theorem Tx_len {y : Ly} {hd : Int} (h : PaOk y hd) : (Tx y hd).length ≤ 100 := by
  have ok := h.ok
  have h1 := num_len2 (show y.B < 100 by have := ok.b16; omega)
  have h2 := num_len2 (show y.E < 100 by have := ok.e; omega)
  have h3 := num_len2 (show y.X < 100 by have := ok.x; omega)
  have h4 := num_len2 (show hd.toNat < 100 by have := h.h64; omega)
  have h5 : (cBlk y.fr).length ≤ 15 := by cases y.fr <;> decide
  have h6 : (tEx y.E y.X).length ≤ 30 := by
    unfold tEx
    split
    · simp only [List.length_append]
      have : cExc.length = 12 := rfl
      have : cOf.length = 4 := rfl
      have : cBits.length = 5 := rfl
      omega
    · exact Nat.zero_le _
  have h7 : (tHd hd).length ≤ 20 := by
    unfold tHd
    split
    · simp only [List.length_append]
      have : cHead.length = 6 := rfl
      have : cBits.length = 5 := rfl
      omega
    · exact Nat.zero_le _
  unfold Tx
  simp only [List.length_append]
  omega
end Wq
set_option Elab.async false
set_option linter.all false
set_option maxRecDepth 100000
set_option maxHeartbeats 4000000
namespace Wq
open PySem PySem.Spec PyProof.Rows L2
open SX (S S_len S_cat S_beq_eq)
section
variable {X : Cx} {e : Expr} {t1 t2 : TG}
def gOr (t1 t2 : TG) : TG := fun v σ H Q => t1 v σ H Q ∨ t2 v σ H Q
theorem pg_alt (h1 : PG X e t1) (h2 : PG X e t2) : PG X e (gOr t1 t2) := ⟨fun pins s σ H v u Q I r q => q.elim (h1.run pins s σ H v u Q I r) (h2.run pins s σ H v u Q I r)⟩
end
abbrev sTL : Stmt := top 15
theorem scTL : FnScope ["is_free", "numbers", "is_excepting", "is_heading", "exceptions", "wide"] ["is_free", "numbers", "is_excepting", "is_heading"] (defScope sTL) := ⟨rfl, rfl, rfl, by decide +kernel, rfl, by decide +kernel, by decide +kernel⟩
/-- the five numbers of a layout -/
def five (y : Ly) : List V := [.bl y.fr, nI y.B, nI y.E, nI y.X, nI y.H]
structure PaX (y : Ly) (hd : Int) : Prop extends PaOk y hd where
  x0 : ¬ 0 < y.E → y.X = 0
def spTL (K : PySem.W.Frag) : Sp := fun vs H Q _ => ∃ (y : Ly) (hd : Int) (np : Addr), vs = [.bl y.fr, .ref np, .bl (exB y), .bl (heB hd)] ∧ PaX y hd ∧ H np = some (.lst ((nsOf y hd).map nI)) ∧ ∀ r G, Same H G → G r = some (.tup (five y)) → Q (.ref r) G
section
variable {P : Program} {w : World} {K : PySem.W.Frag} {mg : Str → Option Value} {base : Heap} {C : Addr}
theorem ok_TL (D : DefAt K mg "told_layout" sTL) (T : Txt K mg) : Cl P w K mg base 1 "told_layout" (spTL K) := by
  refine cl_of D scTL (fun vs H Q E h => ?_) (fun _ _ _ _ _ _ us hl => match us, hl with | [_, _, _, _], _ => rfl) (fun f cdv A1 outer s H vs Q E hr h => ?_)
  · obtain ⟨y, hd, np, rfl, _⟩ := h
    rfl
  · obtain ⟨y, hd, np, rfl, hp, hnp, k⟩ := h
    refine ⟨_, C8.pss_cut (ps_asg (pe_ifExp (pt_val (pv 2)) (pe_slice sl_list (pv 1) (po_some pe_int) (po_some pe_int)) (pe_tup (pa_cons pe_int (pa_cons pe_int pa_nil)))) (pg_alt (pg_tup (by rfl) (pgs_cons (pg_name (i := 4) scTL.nd rfl (Or.inl rfl)) (pgs_cons (pg_name (i := 5) scTL.nd rfl (Or.inl rfl)) pgs_nil))) (pg_unl (by rfl) (pgs_cons (pg_name (i := 4) scTL.nd rfl (Or.inl rfl)) (pgs_cons (pg_name (i := 5) scTL.nd rfl (Or.inl rfl)) pgs_nil)))))
(pss_one (ps_ret (pe_tup (pa_cons (pv 0) (pa_cons (pe_ix ix_list (pv 1) pe_int (fun _ _ => rfl)) (pa_cons (pv 4) (pa_cons (pv 5) (pa_cons (pe_ifExp (pt_val (pv 3)) (pe_ix ix_list (pv 1) (pe_un un_neg pe_int) (fun _ _ => rfl)) pe_int) pa_nil)))))))), ?_⟩
    refine ⟨fun σ G => σ = [some (.bl y.fr), some (.ref np), some (.bl (exB y)), some (.bl (heB hd)), some (nI y.E), some (nI y.X)] ∧ Same H G, ?_, ?_⟩
    · refine ⟨_, rfl, exB y, rfl, ?_⟩
      refine ite2 (fun he => ?_) (fun he => ?_)
      · have he : 0 < y.E := of_decide_eq_true he
        have hcv : ∃ r, (nsOf y hd).map nI = nI y.B :: nI y.E :: nI y.X :: r := by
          unfold nsOf
          rw [if_pos he]
          exact ⟨_, rfl⟩
        obtain ⟨r, hcv⟩ := hcv
        rw [hcv] at hnp
        refine ⟨_, rfl, _, rfl, _, rfl, np, _, rfl, .inl (.inl hnp), fun p hp' => ?_⟩
        have hc : cutV (nI y.B :: nI y.E :: nI y.X :: r) (some 1) (some 3) = [nI y.E, nI y.X] := by
          have := cut_mid (xs := nI y.B :: nI y.E :: nI y.X :: r) (b := 1) (e := 3) (by omega) (by show 3 ≤ r.length + 1 + 1 + 1; omega)
          exact this
        rw [hc]
        exact .inr ⟨p, _, rfl, .inl (.inl upd_same), rfl, _, _, rfl, _, _, rfl, rfl, rfl, sNew hp'⟩
      · have he : ¬ 0 < y.E := fun z => he (decide_eq_true z)
        have hE0 : y.E = 0 := by omega
        have hX0 := hp.x0 he
        refine ⟨by show 2 ≤ sizeLine; decide, fun p hp' => .inl ⟨p, _, rfl, .inl (.inl upd_same), rfl, _, _, rfl, _, _, rfl, rfl, ?_, sNew hp'⟩⟩
        rw [hE0, hX0]
        rfl
    · rintro σ G ⟨rfl, sg⟩
      have hnp2 := sg _ _ hnp
      refine ⟨_, rfl, _, rfl, np, _, 0, nI y.B, rfl, rfl, .inl (.inl hnp2), atI_nat (j := 0) rfl, _, rfl, _, rfl, _, rfl, heB hd, rfl, ?_⟩
      have fin : ∀ r G', Same G G' → G' r = some (.tup (five y)) → Q (.ref r) G' := fun r G' s' hr' => k r G' (sg.trans s') hr'
      have hho := hp.ho
      unfold HdOk at hho
      refine ite2 (fun h0 => ?_) (fun h0 => ?_)
      · have h0 : 0 ≤ hd := of_decide_eq_true h0
        rw [if_neg (by omega)] at hho
        have hH : hd.toNat = y.H := by omega
        have hlast : ∃ r, (nsOf y hd).map nI = r ++ [nI y.H] := by
          unfold nsOf
          rw [if_pos h0, hH]
          refine ⟨([y.B] ++ (if 0 < y.E then [y.E, y.X] else [])).map nI, ?_⟩
          simp only [List.map_append, List.append_assoc, List.map_cons, List.map_nil]
        obtain ⟨r, hlast⟩ := hlast
        rw [hlast] at hnp2
        refine ⟨_, rfl, _, rfl, np, _, -1, nI y.H, rfl, rfl, .inl (.inl hnp2), atI_last _ _, by show 5 ≤ sizeLine; decide, fun p hp' => fin p _ (sNew hp') upd_same⟩
      · have h0 : ¬ 0 ≤ hd := fun z => h0 (decide_eq_true z)
        rw [if_pos (by omega)] at hho
        have hH : y.H = 8 := by omega
        refine ⟨by show 5 ≤ sizeLine; decide, fun p hp' => fin p _ (sNew hp') ?_⟩
        rw [upd_same]
        unfold five
        rw [hH]
        rfl
end
end Wq
set_option Elab.async false
set_option linter.all false
set_option maxRecDepth 100000
set_option maxHeartbeats 4000000
namespace Wq
open PySem PySem.Spec PyProof.Rows L2
open SX (S S_len S_cat S_beq_eq)
/-- the tables of forms -/
structure Forms (K : PySem.W.Frag) (mg : Str → Option Value) : Prop where
  ex : ∃ b b0 b1 n0 n1 e e0 e1 n2 n3 h h0 h1 n4 : Addr, mg "BLOCKS" = some (.ref b) ∧ StT K b [.ref b0, .ref b1] ∧ StT K b0 [.str (S (cBlk false)), .ref n0] ∧ StT K b1 [.str (S (cBlk true)), .ref n1] ∧ StT K n0 [nI 1, nI 16] ∧ StT K n1 [nI 1, nI 16] ∧
    mg "EXCEPTIONS" = some (.ref e) ∧ StT K e [.ref e0, .ref e1] ∧ StT K e0 [] ∧ StT K e1 [.str (S cExc), .ref n2, .str (S cOf), .ref n3, .str (S cBits)] ∧ StT K n2 [nI 1, nI 4] ∧ StT K n3 [nI 1, nI 24] ∧
    mg "HEADS" = some (.ref h) ∧ StT K h [.ref h0, .ref h1] ∧ StT K h0 [] ∧ StT K h1 [.str (S cHead), .ref n4, .str (S cBits)] ∧ StT K n4 [nI 0, nI 64]
def b2 (i : Nat) : Bool := decide (i = 1)
theorem Forms.get {K : PySem.W.Frag} {mg : Str → Option Value} (F : Forms K mg) : ∃ b e h : Addr, mg "BLOCKS" = some (.ref b) ∧ mg "EXCEPTIONS" = some (.ref e) ∧ mg "HEADS" = some (.ref h) ∧
    (∃ x0 x1, StT K b [.ref x0, .ref x1] ∧ ∀ i, i < 2 → ∃ a xs, ([.ref x0, .ref x1] : List V)[i]? = some (.ref a) ∧ StT K a xs ∧ xs ≠ [] ∧ FmV K xs [.lit (cBlk (b2 i)), .num 1 16]) ∧
    (∃ x0 x1, StT K e [.ref x0, .ref x1] ∧ ∀ i, i < 2 → ∃ a xs, ([.ref x0, .ref x1] : List V)[i]? = some (.ref a) ∧ StT K a xs ∧ FmV K xs (pExc (b2 i))) ∧
    (∃ x0 x1, StT K h [.ref x0, .ref x1] ∧ ∀ i, i < 2 → ∃ a xs, ([.ref x0, .ref x1] : List V)[i]? = some (.ref a) ∧ StT K a xs ∧ FmV K xs (pHd (b2 i))) := by
  obtain ⟨b, b0, b1, n0, n1, e, e0, e1, n2, n3, h, h0, h1, n4, g1, s1, s2, s3, s4, s5, g2, t1, t2, t3, t4, t5, g3, u1, u2, u3, u4⟩ := F.ex
  refine ⟨b, e, h, g1, g2, g3, ⟨b0, b1, s1, fun i hi => ?_⟩, ⟨e0, e1, t1, fun i hi => ?_⟩, ⟨h0, h1, u1, fun i hi => ?_⟩⟩
  · match i, hi with
    | 0, _ => exact ⟨b0, _, rfl, s2, (fun z => nomatch z), rfl, ⟨n0, rfl, s4⟩, trivial⟩
    | 1, _ => exact ⟨b1, _, rfl, s3, (fun z => nomatch z), rfl, ⟨n1, rfl, s5⟩, trivial⟩
  · match i, hi with
    | 0, _ => exact ⟨e0, _, rfl, t2, trivial⟩
    | 1, _ => exact ⟨e1, _, rfl, t3, rfl, ⟨n2, rfl, t4⟩, rfl, ⟨n3, rfl, t5⟩, rfl, trivial⟩
  · match i, hi with
    | 0, _ => exact ⟨h0, _, rfl, u2, trivial⟩
    | 1, _ => exact ⟨h1, _, rfl, u3, rfl, ⟨n4, rfl, u4⟩, rfl, trivial⟩
def bn (b : Bool) : Nat := if b = true then 1 else 0
theorem bn_b2 {i : Nat} (h : i < 2) : bn (b2 i) = i := by
  match i, h with
  | 0, _ => rfl
  | 1, _ => rfl
theorem earlier {i j l : Nat} (hi : i < 2) (hj : j < 2) (hl : l < 2) (a b c : Bool) (h : 4 * i + 2 * j + l < 4 * bn a + 2 * bn b + bn c) : (b2 i = false ∧ a = true) ∨ (b2 i = a ∧ ((b2 j = false ∧ b = true) ∨ (b2 j = b ∧ b2 l = false ∧ c = true))) := by
  match i, hi, j, hj, l, hl with
  | 0, _, 0, _, 0, _ => revert h; cases a <;> cases b <;> cases c <;> decide
  | 0, _, 0, _, 1, _ => revert h; cases a <;> cases b <;> cases c <;> decide
  | 0, _, 1, _, 0, _ => revert h; cases a <;> cases b <;> cases c <;> decide
  | 0, _, 1, _, 1, _ => revert h; cases a <;> cases b <;> cases c <;> decide
  | 1, _, 0, _, 0, _ => revert h; cases a <;> cases b <;> cases c <;> decide
  | 1, _, 0, _, 1, _ => revert h; cases a <;> cases b <;> cases c <;> decide
  | 1, _, 1, _, 0, _ => revert h; cases a <;> cases b <;> cases c <;> decide
  | 1, _, 1, _, 1, _ => revert h; cases a <;> cases b <;> cases c <;> decide
theorem now {i j l : Nat} (hi : i < 2) (hj : j < 2) (hl : l < 2) (a b c : Bool) (h : 4 * i + 2 * j + l = 4 * bn a + 2 * bn b + bn c) : b2 i = a ∧ b2 j = b ∧ b2 l = c := by
  match i, hi, j, hj, l, hl with
  | 0, _, 0, _, 0, _ => revert h; cases a <;> cases b <;> cases c <;> decide
  | 0, _, 0, _, 1, _ => revert h; cases a <;> cases b <;> cases c <;> decide
  | 0, _, 1, _, 0, _ => revert h; cases a <;> cases b <;> cases c <;> decide
  | 0, _, 1, _, 1, _ => revert h; cases a <;> cases b <;> cases c <;> decide
  | 1, _, 0, _, 0, _ => revert h; cases a <;> cases b <;> cases c <;> decide
  | 1, _, 0, _, 1, _ => revert h; cases a <;> cases b <;> cases c <;> decide
  | 1, _, 1, _, 0, _ => revert h; cases a <;> cases b <;> cases c <;> decide
  | 1, _, 1, _, 1, _ => revert h; cases a <;> cases b <;> cases c <;> decide
theorem bn_le (b : Bool) : bn b ≤ 1 := by cases b <;> decide
abbrev sRL : Stmt := top 14
abbrev NRL : List Str := ["text", "furthest", "free", "excepting", "heading", "form", "at", "numbers", "ahead"]
theorem scRL : FnScope NRL ["text"] (defScope sRL) := ⟨rfl, rfl, rfl, by decide +kernel, rfl, by decide +kernel, by decide +kernel⟩
def spRL : Sp := fun vs H Q _ => ∃ (y : Ly) (hd : Int), vs = [.str (S (Tx y hd))] ∧ PaX y hd ∧ ∀ r G, Same H G → G r = some (.tup (five y)) → Q (.ref r) G
theorem lit_ok {fr ex he : Bool} {w : List Nat} (h : Pt.lit w ∈ fmP fr ex he) : w.length ≤ 100 := by
  unfold fmP pExc pHd at h
  cases fr <;> cases ex <;> cases he <;> (simp [cBlk, cExc, cOf, cBits, cHead] at h; rcases h with h | h | h | h | h | h | h <;> first | (subst h; decide) | (exact h.elim) | skip)
  all_goals first | decide | omega | skip
end Wq
set_option Elab.async false
set_option linter.all false
set_option maxRecDepth 100000
set_option maxHeartbeats 4000000
namespace Wq
open PySem PySem.Spec PyProof.Rows L2
/-! how far parts go on a row of signs -/
def run : List Pt → List Nat → Nat × Bool
  | [], _ => (0, true)
  | .lit w :: ps, l => if lcp w l = w.length then ((run ps (l.drop w.length)).1 + w.length, (run ps (l.drop w.length)).2) else (lcp w l, false)
  | .num lo hi :: ps, l => if gA hi [] l = 0 ∨ NumText.digitsVal (l.take (gA hi [] l)) < lo then (0, false) else ((run ps (l.drop (gA hi [] l))).1 + gA hi [] l, (run ps (l.drop (gA hi [] l))).2)
theorem run_lit (w : List Nat) (ps : List Pt) (l : List Nat) : run (.lit w :: ps) l = if lcp w l = w.length then ((run ps (l.drop w.length)).1 + w.length, (run ps (l.drop w.length)).2) else (lcp w l, false) := rfl
theorem run_num (lo hi : Nat) (ps : List Pt) (l : List Nat) : run (.num lo hi :: ps) l = if gA hi [] l = 0 ∨ NumText.digitsVal (l.take (gA hi [] l)) < lo then (0, false) else ((run ps (l.drop (gA hi [] l))).1 + gA hi [] l, (run ps (l.drop (gA hi [] l))).2) := rfl
theorem run_le : ∀ (ps : List Pt) (l : List Nat), (run ps l).1 ≤ l.length
  | [], l => Nat.zero_le _
  | .lit w :: ps, l => by
    unfold run
    have h1 := lcp_le w l
    have h2 := run_le ps (l.drop w.length)
    rw [List.length_drop] at h2
    split
    · show _ + w.length ≤ l.length
      omega
    · exact h1.2
  | .num lo hi :: ps, l => by
    unfold run
    have h1 := gA_le hi [] l
    have h2 := run_le ps (l.drop (gA hi [] l))
    rw [List.length_drop] at h2
    split
    · exact Nat.zero_le _
    · show _ + gA hi [] l ≤ l.length
      omega
theorem rf_run : ∀ (ps : List Pt) (t : List Nat) (a : Nat) (ns : List Nat), a ≤ t.length → (rf t ps a ns).1 = if (run ps (t.drop a)).2 = true ∧ a + (run ps (t.drop a)).1 = t.length then t.length + 1 else a + (run ps (t.drop a)).1
  | [], t, a, ns, h => by
    unfold rf run
    by_cases e : a = t.length
    · rw [if_pos e, if_pos ⟨rfl, by rw [Nat.add_zero]; exact e⟩]
    · rw [if_neg e, if_neg (fun z => e (by have := z.2; rw [Nat.add_zero] at this; exact this)), Nat.add_zero]
  | .lit w :: ps, t, a, ns, h => by
    unfold rf run
    have h1 := lcp_le w (t.drop a)
    rw [List.length_drop] at h1
    by_cases e : lcp w (t.drop a) = w.length
    · rw [if_pos e, if_pos e]
      have ih := rf_run ps t (a + w.length) ns (by omega)
      rw [ih, List.drop_drop]
      have e2 : a + ((run ps (t.drop (a + w.length))).1 + w.length) = a + w.length + (run ps (t.drop (a + w.length))).1 := by omega
      rw [e2]
    · rw [if_neg e, if_neg e, if_neg (fun z => nomatch z.1)]
  | .num lo hi :: ps, t, a, ns, h => by
    unfold rf run
    have h1 := gA_le hi [] (t.drop a)
    rw [List.length_drop] at h1
    by_cases e : gA hi [] (t.drop a) = 0 ∨ NumText.digitsVal ((t.drop a).take (gA hi [] (t.drop a))) < lo
    · rw [if_pos e, if_pos e, if_neg (fun z => nomatch z.1)]
      rfl
    · rw [if_neg e, if_neg e]
      have ih := rf_run ps t (a + gA hi [] (t.drop a)) (ns ++ [NumText.digitsVal ((t.drop a).take (gA hi [] (t.drop a)))]) (by omega)
      rw [ih, List.drop_drop]
      generalize gA hi [] (t.drop a) = g at *
      have e2 : a + ((run ps (t.drop (a + g))).1 + g) = a + g + (run ps (t.drop (a + g))).1 := by omega
      rw [e2]
theorem run_app : ∀ (ps qs : List Pt) (l : List Nat), run (ps ++ qs) l = if (run ps l).2 = true then ((run qs (l.drop (run ps l).1)).1 + (run ps l).1, (run qs (l.drop (run ps l).1)).2) else ((run ps l).1, false)
  | [], qs, l => by
    show run qs l = if true = true then ((run qs (l.drop 0)).1 + 0, (run qs (l.drop 0)).2) else _
    rw [if_pos rfl]
    rfl
  | .lit w :: ps, qs, l => by
    show run (.lit w :: (ps ++ qs)) l = _
    rw [run_lit w (ps ++ qs) l, run_lit w ps l]
    by_cases e : lcp w l = w.length
    · rw [if_pos e, if_pos e, run_app ps qs]
      by_cases e2 : (run ps (l.drop w.length)).2 = true
      · rw [if_pos e2, if_pos e2, List.drop_drop]
        have e3 : w.length + (run ps (l.drop w.length)).1 = (run ps (l.drop w.length)).1 + w.length := Nat.add_comm _ _
        rw [e3]
        exact Prod.ext (Nat.add_assoc _ _ _) rfl
      · rw [if_neg e2, if_neg e2]
    · rw [if_neg e, if_neg e]
      rfl
  | .num lo hi :: ps, qs, l => by
    show run (.num lo hi :: (ps ++ qs)) l = _
    rw [run_num lo hi (ps ++ qs) l, run_num lo hi ps l]
    by_cases e : gA hi [] l = 0 ∨ NumText.digitsVal (l.take (gA hi [] l)) < lo
    · rw [if_pos e, if_pos e]
      rfl
    · rw [if_neg e, if_neg e, run_app ps qs]
      generalize gA hi [] l = g at *
      by_cases e2 : (run ps (l.drop g)).2 = true
      · rw [if_pos e2, if_pos e2, List.drop_drop]
        have e3 : g + (run ps (l.drop g)).1 = (run ps (l.drop g)).1 + g := Nat.add_comm _ _
        rw [e3]
        exact Prod.ext (Nat.add_assoc _ _ _) rfl
      · rw [if_neg e2, if_neg e2]
/-! lines -/
theorem lcp_nl : ∀ (w l r : List Nat), 10 ∉ w → lcp w (l ++ 10 :: r) = lcp w l
  | [], l, r, _ => by cases l <;> rfl
  | a :: w, [], r, h => by
    show lcp (a :: w) (10 :: r) = 0
    unfold lcp
    rw [if_neg (fun z => h (by rw [z]; exact List.mem_cons_self))]
  | a :: w, b :: l, r, h => by
    show lcp (a :: w) (b :: (l ++ 10 :: r)) = lcp (a :: w) (b :: l)
    unfold lcp
    rw [lcp_nl w l r (fun z => h (List.mem_cons_of_mem _ z))]
theorem gA_nl (hi : Nat) : ∀ (l p r : List Nat), gA hi p (l ++ 10 :: r) = gA hi p l
  | [], p, r => gA_stop (.inr ⟨10, r, rfl, by decide⟩)
  | c :: l, p, r => by
    show gA hi p (c :: (l ++ 10 :: r)) = gA hi p (c :: l)
    unfold gA
    rw [gA_nl hi l (p ++ [c]) r]
def NoNl : List Pt → Prop
  | [] => True
  | .lit w :: ps => 10 ∉ w ∧ NoNl ps
  | .num _ _ :: ps => NoNl ps
theorem run_line : ∀ (ps : List Pt), NoNl ps → ∀ l r : List Nat, run ps (l ++ 10 :: r) = run ps l
  | [], _, l, r => rfl
  | .lit w :: ps, h, l, r => by
    unfold run
    rw [lcp_nl w l r h.1]
    by_cases e : lcp w l = w.length
    · have h1 := (lcp_le w l).2
      rw [if_pos e, if_pos e, List.drop_append_of_le_length (by omega), run_line ps h.2]
    · rw [if_neg e, if_neg e]
  | .num lo hi :: ps, h, l, r => by
    unfold run
    rw [gA_nl]
    have h1 := gA_le hi [] l
    generalize gA hi [] l = g at *
    rw [List.take_append_of_le_length h1, List.drop_append_of_le_length h1, run_line ps h]
/-! numbers -/
theorem dv_snoc (a : List Nat) (c : Nat) : NumText.digitsVal (a ++ [c]) = NumText.digitsVal a * 10 + (c - 48) := by
  unfold NumText.digitsVal
  rw [List.foldl_append]
  rfl
theorem canon : ∀ (k : Nat) (a : List Nat), a.length = k + 1 → a.all isD = true → a.head? ≠ some 48 → TL.numL (NumText.digitsVal a) = a ∧ 0 < NumText.digitsVal a
  | 0, a, hl, hd, hh => by
    match a, hl with
    | [c], _ =>
      have hc : isD c = true := by simpa using hd
      unfold isD at hc
      simp at hc
      have h48 : c ≠ 48 := fun z => hh (by rw [z]; rfl)
      have e : NumText.digitsVal [c] = c - 48 := by
        show 0 * 10 + (c - 48) = c - 48
        omega
      rw [e, TL.numL_lt (by omega)]
      exact ⟨by rw [show 48 + (c - 48) = c by omega], by omega⟩
  | k + 1, a, hl, hd, hh => by
    rcases List.eq_nil_or_concat a with e | ⟨b, c, e⟩
    · subst e; cases hl
    · rw [List.concat_eq_append] at e
      subst e
      have hb : b.length = k + 1 := by simpa using hl
      rw [List.all_append, Bool.and_eq_true] at hd
      have hc : isD c = true := by simpa using hd.2
      unfold isD at hc
      simp at hc
      have hbh : b.head? ≠ some 48 := by
        cases b with
        | nil => cases hb
        | cons x r => exact hh
      obtain ⟨i1, i2⟩ := canon k b hb hd.1 hbh
      rw [dv_snoc]
      rw [TL.numL_step (by omega), show (NumText.digitsVal b * 10 + (c - 48)) / 10 = NumText.digitsVal b by omega, show 48 + (NumText.digitsVal b * 10 + (c - 48)) % 10 = c by omega, i1]
      exact ⟨rfl, by omega⟩
theorem bg_num {hi : Nat} {a : List Nat} (hne : a ≠ []) (h : isBg hi a = true) : TL.numL (NumText.digitsVal a) = a ∧ NumText.digitsVal a ≤ hi ∧ (NumText.digitsVal a = 0 → a = [48]) := by
  unfold isBg at h
  rw [Bool.and_eq_true, Bool.and_eq_true, Bool.or_eq_true] at h
  obtain ⟨h1, h2, h3⟩ := h
  have h3 := of_decide_eq_true h3
  rcases h2 with h2 | h2
  · have h2 := of_decide_eq_true h2
    subst h2
    exact ⟨by rw [show NumText.digitsVal [48] = 0 from rfl, TL.numL_lt (by decide)], h3, fun _ => rfl⟩
  · have h2 : a.head? ≠ some 48 := by simpa using h2
    have hl : a.length = (a.length - 1) + 1 := by
      have := List.length_pos_iff.mpr hne
      omega
    obtain ⟨i1, i2⟩ := canon _ a hl h1 h2
    exact ⟨i1, h3, fun z => by omega⟩
theorem bg_pre {hi n : Nat} (h : n ≤ hi) (hn : n < 100) {a b : List Nat} (e : TL.numL n = a ++ b) (hne : a ≠ []) : isBg hi a = true := by
  by_cases h9 : n < 10
  · rw [TL.numL_lt h9] at e
    have hb : b = [] := by
      cases a with
      | nil => exact absurd rfl hne
      | cons x r =>
        have := (List.cons.inj e).2
        exact (List.append_eq_nil_iff.mp this.symm).2
    subst hb
    rw [List.append_nil] at e
    rw [← e, ← TL.numL_lt h9]
    exact isBg_num h hn
  · have e2 := e
    rw [TL.numL_step (show 10 ≤ n by omega), TL.numL_lt (show n / 10 < 10 by omega)] at e2
    match a, b, e2 with
    | [], _, _ => exact absurd rfl hne
    | [x], _, e2 =>
      have hx : 48 + n / 10 = x := (List.cons.inj e2).1
      rw [← hx, ← TL.numL_lt (show n / 10 < 10 by omega)]
      exact isBg_num (by omega) (by omega)
    | [x, y], b, e2 =>
      have hb : b = [] := by
        have := congrArg List.length e2
        simp at this
        exact this
      subst hb
      rw [List.append_nil] at e
      rw [← e]
      exact isBg_num h hn
    | x :: y :: z :: r, b, e2 =>
      have := congrArg List.length e2
      simp at this
theorem gA_spec (hi : Nat) : ∀ (l p : List Nat), (∀ k, 1 ≤ k → k ≤ gA hi p l → isBg hi (p ++ l.take k) = true)
  | [], p, k, h1, h2 => by
    have : gA hi p [] = 0 := rfl
    omega
  | c :: r, p, k, h1, h2 => by
    by_cases e : isBg hi (p ++ [c]) = true
    · rw [gA_yes e] at h2
      match k, h1 with
      | 1, _ => exact e
      | k + 2, _ =>
        have := gA_spec hi r (p ++ [c]) (k + 1) (by omega) (by omega)
        rw [List.append_assoc] at this
        exact this
    · rw [gA_no e] at h2
      omega
theorem gA_ge (hi : Nat) : ∀ (l p : List Nat) (j : Nat), j ≤ l.length → (∀ k, 1 ≤ k → k ≤ j → isBg hi (p ++ l.take k) = true) → j ≤ gA hi p l
  | [], p, j, h, _ => by
    have : j ≤ 0 := h
    omega
  | c :: r, p, 0, _, _ => Nat.zero_le _
  | c :: r, p, j + 1, h, hk => by
    have e : isBg hi (p ++ [c]) = true := hk 1 (by omega) (by omega)
    rw [gA_yes e]
    have h : j + 1 ≤ r.length + 1 := h
    have := gA_ge hi r (p ++ [c]) j (by omega) fun k h1 h2 => by
      have := hk (k + 1) (by omega) (by omega)
      rw [List.append_assoc]
      exact this
    omega
end Wq
set_option Elab.async false
set_option linter.all false
set_option maxRecDepth 100000
set_option maxHeartbeats 4000000
namespace Wq
open PySem PySem.Spec PyProof.Rows L2
/-! all texts of parts, and the greatest beginning that a row of signs has of one of them -/
def tx : List Pt → List (List Nat)
  | [] => [[]]
  | .lit w :: ps => (tx ps).map fun s => w ++ s
  | .num lo hi :: ps => (List.range (hi + 1 - lo)).flatMap fun k => (tx ps).map fun s => TL.numL (lo + k) ++ s
def HdL : List Pt → Prop
  | [] => True
  | .lit w :: _ => ∃ c r, w = c :: r ∧ isD c = false
  | .num _ _ :: _ => False
def Gd : List Pt → Prop
  | [] => True
  | .lit _ :: ps => Gd ps
  | .num lo hi :: ps => lo ≤ 1 ∧ lo ≤ hi ∧ hi < 100 ∧ HdL ps ∧ Gd ps
theorem tx_num {lo hi : Nat} {ps : List Pt} {o : List Nat} : o ∈ tx (.num lo hi :: ps) ↔ ∃ n, lo ≤ n ∧ n ≤ hi ∧ ∃ s ∈ tx ps, o = TL.numL n ++ s := by
  show o ∈ (List.range (hi + 1 - lo)).flatMap (fun k => (tx ps).map fun s => TL.numL (lo + k) ++ s) ↔ _
  rw [List.mem_flatMap]
  constructor
  · rintro ⟨k, hk, h⟩
    obtain ⟨s, hs, e⟩ := List.mem_map.mp h
    have := List.mem_range.mp hk
    exact ⟨lo + k, by omega, by omega, s, hs, e.symm⟩
  · rintro ⟨n, h1, h2, s, hs, e⟩
    refine ⟨n - lo, List.mem_range.mpr (by omega), List.mem_map.mpr ⟨s, hs, ?_⟩⟩
    rw [show lo + (n - lo) = n by omega]
    exact e.symm
theorem tx_stop {ps : List Pt} (h : HdL ps) {s : List Nat} (hs : s ∈ tx ps) : Stop s := by
  cases ps with
  | nil =>
    have : s = [] := List.mem_singleton.mp hs
    exact .inl this
  | cons p ps =>
    cases p with
    | lit w =>
      obtain ⟨c, r, e, hc⟩ := h
      obtain ⟨s', _, e2⟩ := List.mem_map.mp hs
      subst e e2
      exact .inr ⟨c, r ++ s', rfl, hc⟩
    | num lo hi => exact h.elim
theorem tx_ne : ∀ {ps : List Pt}, Gd ps → ∃ o, o ∈ tx ps
  | [], _ => ⟨[], List.mem_singleton.mpr rfl⟩
  | .lit w :: ps, h => by
    obtain ⟨o, ho⟩ := tx_ne (ps := ps) h
    exact ⟨w ++ o, List.mem_map.mpr ⟨o, ho, rfl⟩⟩
  | .num lo hi :: ps, h => by
    obtain ⟨o, ho⟩ := tx_ne (ps := ps) h.2.2.2.2
    exact ⟨TL.numL lo ++ o, tx_num.mpr ⟨lo, Nat.le_refl _, h.2.1, o, ho, rfl⟩⟩
theorem lcp_whole : ∀ (w l : List Nat), lcp w l = w.length → l = w ++ l.drop w.length
  | [], l, _ => rfl
  | a :: w, [], h => by cases h
  | a :: w, b :: l, h => by
    by_cases e : a = b
    · subst e
      rw [lcp_same] at h
      have h : lcp w l + 1 = w.length + 1 := h
      have := lcp_whole w l (by omega)
      show a :: l = a :: (w ++ l.drop w.length)
      rw [← this]
    · unfold lcp at h
      rw [if_neg e] at h
      cases h
theorem lcp_app : ∀ (w s l : List Nat), lcp (w ++ s) l = if lcp w l = w.length then w.length + lcp s (l.drop w.length) else lcp w l
  | [], s, l => by
    show lcp s l = if lcp [] l = 0 then 0 + lcp s l else _
    have : lcp [] l = 0 := by cases l <;> rfl
    rw [if_pos this, Nat.zero_add]
  | a :: w, s, [] => by
    show 0 = if 0 = w.length + 1 then _ else 0
    rw [if_neg (by omega)]
  | a :: w, s, b :: l => by
    show lcp (a :: (w ++ s)) (b :: l) = if lcp (a :: w) (b :: l) = w.length + 1 then w.length + 1 + lcp s (l.drop w.length) else lcp (a :: w) (b :: l)
    by_cases e : a = b
    · subst e
      rw [lcp_same, lcp_same, lcp_app w s l]
      by_cases e2 : lcp w l = w.length
      · rw [if_pos e2, if_pos (by omega)]
        omega
      · rw [if_neg e2, if_neg (by omega)]
    · unfold lcp
      rw [if_neg e, if_neg e, if_neg (by omega)]
theorem lcp_take : ∀ (w l : List Nat) (k : Nat), k ≤ lcp w l → l.take k = w.take k
  | w, l, 0, _ => by rw [List.take_zero, List.take_zero]
  | [], l, k + 1, h => by
    have : lcp [] l = 0 := by cases l <;> rfl
    omega
  | a :: w, [], k + 1, h => by
    have : lcp (a :: w) [] = 0 := rfl
    omega
  | a :: w, b :: l, k + 1, h => by
    by_cases e : a = b
    · subst e
      rw [lcp_same] at h
      rw [List.take_succ_cons, List.take_succ_cons, lcp_take w l k (by omega)]
    · unfold lcp at h
      rw [if_neg e] at h
      omega
theorem lcp_stop {s r : List Nat} {c : Nat} (h : Stop s) (hc : isD c = true) : lcp s (c :: r) = 0 := by
  rcases h with h | ⟨d, s', h, hd⟩
  · subst h; rfl
  · subst h
    unfold lcp
    rw [if_neg (fun z => by rw [z, hc] at hd; cases hd)]
/-- beginnings of numbers that a row has -/
theorem num_bg {hi n : Nat} (h : n ≤ hi) (hn : n < 100) {l : List Nat} {j : Nat} (hj : j ≤ lcp (TL.numL n) l) : j ≤ gA hi [] l := by
  have h1 := lcp_le (TL.numL n) l
  refine gA_ge hi l [] j (by omega) fun k k1 k2 => ?_
  rw [List.nil_append, lcp_take (TL.numL n) l k (by omega)]
  refine bg_pre h hn (List.take_append_drop k (TL.numL n)).symm fun z => ?_
  have := congrArg List.length z
  rw [List.length_take] at this
  have h2 : ([] : List Nat).length = 0 := rfl
  omega
theorem run_up : ∀ (ps : List Pt), Gd ps → ∀ (l o : List Nat), o ∈ tx ps → lcp o l ≤ (run ps l).1
  | [], _, l, o, ho => by
    have : o = [] := List.mem_singleton.mp ho
    subst this
    have : lcp [] l = 0 := by cases l <;> rfl
    omega
  | .lit w :: ps, h, l, o, ho => by
    obtain ⟨s, hs, rfl⟩ := List.mem_map.mp ho
    rw [run_lit, lcp_app]
    by_cases e : lcp w l = w.length
    · rw [if_pos e, if_pos e]
      have := run_up ps h (l.drop w.length) s hs
      show _ ≤ (run ps (l.drop w.length)).1 + w.length
      omega
    · rw [if_neg e, if_neg e]
      exact Nat.le_refl _
  | .num lo hi :: ps, h, l, o, ho => by
    obtain ⟨n, n1, n2, s, hs, rfl⟩ := tx_num.mp ho
    obtain ⟨hlo, hlh, h100, hH, hG⟩ := h
    have hN : 0 < (TL.numL n).length := List.length_pos_iff.mpr (TL.numL_ne n)
    have hj := num_bg (hi := hi) n2 (by omega) (l := l) (Nat.le_refl _)
    have hsp := gA_spec hi l []
    have hgl := gA_le hi [] l
    rw [run_num, lcp_app]
    -- a digit of the number that is read
    by_cases hc : gA hi [] l = 0 ∨ NumText.digitsVal (l.take (gA hi [] l)) < lo
    · rw [if_pos hc]
      have h0 : lcp (TL.numL n) l = 0 := by
        rcases hc with hc | hc
        · omega
        · by_cases z : gA hi [] l = 0
          · omega
          have hb := hsp (gA hi [] l) (by omega) (Nat.le_refl _)
          rw [List.nil_append] at hb
          have hne : l.take (gA hi [] l) ≠ [] := fun z2 => by
            have := congrArg List.length z2
            rw [List.length_take] at this
            have h2 : ([] : List Nat).length = 0 := rfl
            omega
          have h48 := (bg_num hne hb).2.2 (by omega)
          have hl1 : gA hi [] l = 1 := by
            have := congrArg List.length h48
            rw [List.length_take] at this
            have h2 : ([48] : List Nat).length = 1 := rfl
            omega
          by_cases z3 : lcp (TL.numL n) l = 0
          · exact z3
          · exfalso
            have e1 := lcp_take (TL.numL n) l 1 (by omega)
            rw [hl1] at h48
            rw [h48] at e1
            have hb2 := bg_num (hi := hi) (a := TL.numL n) (TL.numL_ne n) (isBg_num n2 (by omega))
            have hv := TL.numL_val n
            -- the number begins with a nought
            by_cases h9 : n < 10
            · rw [TL.numL_lt h9] at e1
              have := (List.cons.inj e1).1
              omega
            · rw [TL.numL_step (by omega), TL.numL_lt (show n / 10 < 10 by omega)] at e1
              have := (List.cons.inj e1).1
              omega
      rw [h0, if_neg (by omega)]
      exact Nat.le_refl _
    · rw [if_neg hc]
      show _ ≤ (run ps (l.drop (gA hi [] l))).1 + gA hi [] l
      by_cases e : lcp (TL.numL n) l = (TL.numL n).length
      · rw [if_pos e]
        by_cases e2 : gA hi [] l = (TL.numL n).length
        · rw [e2]
          have := run_up ps hG (l.drop (TL.numL n).length) s hs
          omega
        · -- more figures than the number has
          have hlt : (TL.numL n).length < gA hi [] l := by omega
          have hb := hsp ((TL.numL n).length + 1) (by omega) (by omega)
          rw [List.nil_append] at hb
          have hd : (l.take ((TL.numL n).length + 1)).all isD = true := by
            unfold isBg at hb
            exact (Bool.and_eq_true_iff.mp hb).1
          have hdr : l.drop (TL.numL n).length = l[(TL.numL n).length]'(by omega) :: l.drop ((TL.numL n).length + 1) := List.drop_eq_getElem_cons (by omega)
          have hdg : isD (l[(TL.numL n).length]'(by omega)) = true := by
            refine List.all_eq_true.mp hd _ ?_
            rw [List.mem_take_iff_getElem]
            exact ⟨(TL.numL n).length, by omega, rfl⟩
          rw [hdr, lcp_stop (tx_stop hH hs) hdg]
          omega
      · rw [if_neg e]
        omega
theorem run_at : ∀ (ps : List Pt), Gd ps → ∀ (l : List Nat), ∃ o ∈ tx ps, lcp o l = (run ps l).1
  | [], _, l => ⟨[], List.mem_singleton.mpr rfl, by cases l <;> rfl⟩
  | .lit w :: ps, h, l => by
    rw [run_lit]
    by_cases e : lcp w l = w.length
    · obtain ⟨s, hs, e2⟩ := run_at ps h (l.drop w.length)
      refine ⟨w ++ s, List.mem_map.mpr ⟨s, hs, rfl⟩, ?_⟩
      rw [if_pos e, lcp_app, if_pos e, e2]
      exact Nat.add_comm _ _
    · obtain ⟨s, hs⟩ := tx_ne (ps := ps) h
      refine ⟨w ++ s, List.mem_map.mpr ⟨s, hs, rfl⟩, ?_⟩
      rw [if_neg e, lcp_app, if_neg e]
  | .num lo hi :: ps, h, l => by
    by_cases hc : gA hi [] l = 0 ∨ NumText.digitsVal (l.take (gA hi [] l)) < lo
    · obtain ⟨o, ho⟩ := tx_ne (ps := .num lo hi :: ps) h
      have := run_up (.num lo hi :: ps) h l o ho
      rw [run_num, if_pos hc] at this ⊢
      exact ⟨o, ho, Nat.le_zero.mp this⟩
    · obtain ⟨hlo, hlh, h100, hH, hG⟩ := h
      have hgl := gA_le hi [] l
      have hb := gA_spec hi l [] (gA hi [] l) (by omega) (Nat.le_refl _)
      rw [List.nil_append] at hb
      have hne : l.take (gA hi [] l) ≠ [] := fun z2 => by
        have := congrArg List.length z2
        rw [List.length_take] at this
        have h2 : ([] : List Nat).length = 0 := rfl
        omega
      obtain ⟨b1, b2, _⟩ := bg_num hne hb
      obtain ⟨s, hs, e2⟩ := run_at ps hG (l.drop (gA hi [] l))
      refine ⟨TL.numL (NumText.digitsVal (l.take (gA hi [] l))) ++ s, tx_num.mpr ⟨_, by omega, b2, s, hs, rfl⟩, ?_⟩
      have hl : (l.take (gA hi [] l)).length = gA hi [] l := by rw [List.length_take]; omega
      have e3 : lcp (l.take (gA hi [] l)) l = gA hi [] l := by
        have := lcp_pre (l.take (gA hi [] l)) (l.drop (gA hi [] l))
        rw [List.take_append_drop, hl] at this
        exact this
      rw [run_num, if_neg hc, b1, lcp_app, hl, if_pos e3, e2]
      exact Nat.add_comm _ _
theorem tx_run : ∀ (ps : List Pt), Gd ps → ∀ (l : List Nat), l ∈ tx ps ↔ run ps l = (l.length, true)
  | [], _, l => by
    constructor
    · intro h
      have : l = [] := List.mem_singleton.mp h
      subst this
      rfl
    · intro h
      have : 0 = l.length := congrArg Prod.fst h
      exact List.mem_singleton.mpr (List.length_eq_zero_iff.mp this.symm)
  | .lit w :: ps, h, l => by
    rw [run_lit]
    constructor
    · intro hl
      obtain ⟨s, hs, rfl⟩ := List.mem_map.mp hl
      have e := lcp_pre w s
      rw [if_pos e, List.drop_left, (tx_run ps h s).mp hs, List.length_append, Nat.add_comm]
    · intro hr
      by_cases e : lcp w l = w.length
      · rw [if_pos e] at hr
        have h1 := congrArg Prod.fst hr
        have h2 := congrArg Prod.snd hr
        have e2 := lcp_whole w l e
        have hs : l.drop w.length ∈ tx ps := (tx_run ps h _).mpr (Prod.ext (by
          have h1 : (run ps (l.drop w.length)).1 + w.length = l.length := h1
          rw [List.length_drop]
          show (run ps (l.drop w.length)).1 = l.length - w.length
          omega) h2)
        rw [e2]
        exact List.mem_map.mpr ⟨_, hs, rfl⟩
      · rw [if_neg e] at hr
        cases congrArg Prod.snd hr
  | .num lo hi :: ps, h, l => by
    obtain ⟨hlo, hlh, h100, hH, hG⟩ := h
    rw [run_num]
    constructor
    · intro hl
      obtain ⟨n, n1, n2, s, hs, rfl⟩ := tx_num.mp hl
      have hN : 0 < (TL.numL n).length := List.length_pos_iff.mpr (TL.numL_ne n)
      rw [gA_num n2 (by omega) (tx_stop hH hs), List.take_left, TL.numL_val, if_neg (by omega), List.drop_left, (tx_run ps hG s).mp hs, List.length_append, Nat.add_comm]
    · intro hr
      by_cases hc : gA hi [] l = 0 ∨ NumText.digitsVal (l.take (gA hi [] l)) < lo
      · rw [if_pos hc] at hr
        cases congrArg Prod.snd hr
      · rw [if_neg hc] at hr
        have h1 := congrArg Prod.fst hr
        have h2 := congrArg Prod.snd hr
        have hgl := gA_le hi [] l
        have hb := gA_spec hi l [] (gA hi [] l) (by omega) (Nat.le_refl _)
        rw [List.nil_append] at hb
        have hne : l.take (gA hi [] l) ≠ [] := fun z2 => by
          have := congrArg List.length z2
          rw [List.length_take] at this
          have h2 : ([] : List Nat).length = 0 := rfl
          omega
        obtain ⟨b1, b2, _⟩ := bg_num hne hb
        have hs : l.drop (gA hi [] l) ∈ tx ps := (tx_run ps hG _).mpr (Prod.ext (by
          have h1 : (run ps (l.drop (gA hi [] l))).1 + gA hi [] l = l.length := h1
          rw [List.length_drop]
          show (run ps (l.drop (gA hi [] l))).1 = l.length - gA hi [] l
          omega) h2)
        refine tx_num.mpr ⟨NumText.digitsVal (l.take (gA hi [] l)), by omega, b2, _, hs, ?_⟩
        rw [b1, List.take_append_drop]
end Wq
set_option Elab.async false
set_option linter.all false
set_option maxRecDepth 100000
set_option maxHeartbeats 4000000
namespace Wq
open PySem PySem.Spec PyProof.Rows L2
/-! where a form goes wrong, line by line -/
def pr (ps : List Pt) (t : List Nat) : Nat := if (run ps t).2 = true ∧ (run ps t).1 = t.length then t.length + 1 else (run ps t).1
theorem rf_pr (ps : List Pt) (t : List Nat) : (rf t ps 0 []).1 = pr ps t := by
  rw [rf_run ps t 0 [] (Nat.zero_le _)]
  unfold pr
  rw [List.drop_zero, Nat.zero_add]
/-- what stands behind a line -/
def Tl (t : List Nat) : Prop := t = [] ∨ ∃ r, t = 10 :: r
/-- what begins with a new line, or is nothing -/
def Nw : List Pt → Prop
  | [] => True
  | .lit w :: _ => ∃ r, w = 10 :: r
  | .num _ _ :: _ => False
theorem run_tl {A : List Pt} (hA : NoNl A) (l : List Nat) {tl : List Nat} (h : Tl tl) : run A (l ++ tl) = run A l := by
  rcases h with h | ⟨r, h⟩
  · rw [h, List.append_nil]
  · rw [h]
    exact run_line A hA l r
theorem pr_yes {A rest : List Pt} (hA : NoNl A) (hG : Gd A) {l tl : List Nat} (h : Tl tl) (hl : l ∈ tx A) : pr (A ++ rest) (l ++ tl) = l.length + pr rest tl := by
  have e := run_tl hA l h
  rw [(tx_run A hG l).mp hl] at e
  unfold pr
  rw [run_app, e, if_pos rfl]
  have e2 : (l ++ tl).drop l.length = tl := List.drop_left
  rw [show ((l.length, true) : Nat × Bool).1 = l.length from rfl, e2, List.length_append]
  by_cases c : (run rest tl).2 = true ∧ (run rest tl).1 = tl.length
  · rw [if_pos c, if_pos ⟨c.1, by show (run rest tl).1 + l.length = l.length + tl.length; omega⟩]
    omega
  · rw [if_neg c, if_neg (fun z => c ⟨z.1, by have z : (run rest tl).1 + l.length = l.length + tl.length := z.2; omega⟩)]
    exact Nat.add_comm _ _
theorem pr_no {A rest : List Pt} (hA : NoNl A) (hG : Gd A) (hR : Nw rest) {l tl : List Nat} (h : Tl tl) (hn : 10 ∉ l) (hl : l ∉ tx A) : pr (A ++ rest) (l ++ tl) = (run A l).1 := by
  have e := run_tl hA l h
  have hle := run_le A l
  unfold pr
  rw [run_app, e]
  by_cases hf : (run A l).2 = true
  · have hlt : (run A l).1 < l.length := by
      by_cases z : (run A l).1 = l.length
      · exact absurd ((tx_run A hG l).mpr (Prod.ext z hf)) hl
      · omega
    rw [if_pos hf]
    have hdr : (l ++ tl).drop (run A l).1 = l[(run A l).1] :: (l.drop ((run A l).1 + 1) ++ tl) := by
      rw [List.drop_append_of_le_length (by omega), List.drop_eq_getElem_cons hlt]
      rfl
    have hne : (10 : Nat) ≠ l[(run A l).1] := fun z => hn (by rw [z]; exact List.getElem_mem _)
    have hlen : (l ++ tl).length = l.length + tl.length := List.length_append
    rw [hdr]
    cases rest with
    | nil =>
      show (if true = true ∧ 0 + (run A l).1 = (l ++ tl).length then _ else 0 + (run A l).1) = (run A l).1
      rw [if_neg (fun z => by have := z.2; omega), Nat.zero_add]
    | cons p ps =>
      cases p with
      | num _ _ => exact hR.elim
      | lit w =>
        obtain ⟨r, hw⟩ := hR
        subst hw
        have h0 : lcp (10 :: r) (l[(run A l).1] :: (l.drop ((run A l).1 + 1) ++ tl)) = 0 := by
          unfold lcp
          rw [if_neg hne]
        rw [run_lit, h0, if_neg (show ¬ 0 = (10 :: r).length from fun z => nomatch z)]
        show (if false = true ∧ _ then _ else 0 + (run A l).1) = (run A l).1
        rw [if_neg (fun z => nomatch z.1), Nat.zero_add]
  · rw [if_neg hf, if_neg (fun z => nomatch z.1)]
theorem pr_nl (w : List Nat) (ps : List Pt) (l : List Nat) : pr (.lit (10 :: w) :: ps) (10 :: l) = 1 + pr (.lit w :: ps) l := by
  unfold pr
  rw [run_lit, run_lit, lcp_same]
  by_cases e : lcp w l = w.length
  · rw [if_pos e, if_pos (show lcp w l + 1 = (10 :: w).length from congrArg (· + 1) e)]
    show (if (run ps (l.drop w.length)).2 = true ∧ (run ps (l.drop w.length)).1 + (w.length + 1) = l.length + 1 then l.length + 1 + 1 else (run ps (l.drop w.length)).1 + (w.length + 1)) = 1 + if (run ps (l.drop w.length)).2 = true ∧ (run ps (l.drop w.length)).1 + w.length = l.length then l.length + 1 else (run ps (l.drop w.length)).1 + w.length
    by_cases c : (run ps (l.drop w.length)).2 = true ∧ (run ps (l.drop w.length)).1 + w.length = l.length
    · rw [if_pos c, if_pos ⟨c.1, by omega⟩]
      omega
    · rw [if_neg c, if_neg (fun z => c ⟨z.1, by omega⟩)]
      omega
  · rw [if_neg e, if_neg (show ¬ lcp w l + 1 = (10 :: w).length from fun z => e (by have z : lcp w l + 1 = w.length + 1 := z; omega))]
    show (if false = true ∧ _ then _ else lcp w l + 1) = 1 + if false = true ∧ _ then _ else lcp w l
    rw [if_neg (fun z => nomatch z.1), if_neg (fun z => nomatch z.1)]
    omega
theorem pr_nil (w : List Nat) (ps : List Pt) : pr (.lit (10 :: w) :: ps) [] = 0 := by
  unfold pr
  rw [run_lit]
  have : lcp (10 :: w) [] = 0 := rfl
  rw [this, if_neg (show ¬ 0 = (10 :: w).length from fun z => nomatch z), if_neg (fun z => nomatch z.1)]
theorem pr_end : pr [] [] = 1 := rfl
theorem pr_more (c : Nat) (r : List Nat) : pr [] (c :: r) = 0 := by
  unfold pr
  show (if true = true ∧ 0 = (c :: r).length then _ else 0) = 0
  rw [if_neg (fun z => nomatch z.2)]
theorem pr_le {ps : List Pt} {t : List Nat} : pr ps t ≤ t.length + 1 := by
  unfold pr
  have := run_le ps t
  split <;> omega
/-! the three kinds of lines -/
def cE1 : List Nat := [101, 120, 99, 101, 112, 116, 105, 111, 110, 115, 32]
def cH1 : List Nat := [104, 101, 97, 100, 32]
def A0 (fr : Bool) : List Pt := [.lit (cBlk fr), .num 1 16]
def B1 : List Pt := [.num 1 4, .lit cOf, .num 1 24, .lit cBits]
def B2 : List Pt := [.num 0 64, .lit cBits]
def A1 : List Pt := .lit cE1 :: B1
def A2 : List Pt := .lit cH1 :: B2
theorem A0_nl (fr : Bool) : NoNl (A0 fr) := by cases fr <;> exact ⟨by decide, trivial⟩
theorem A1_nl : NoNl A1 := ⟨by decide, by decide, by decide, trivial⟩
theorem A2_nl : NoNl A2 := ⟨by decide, by decide, trivial⟩
theorem A0_gd (fr : Bool) : Gd (A0 fr) := ⟨by decide, by decide, by decide, trivial, trivial⟩
theorem A1_gd : Gd A1 := ⟨by decide, by decide, by decide, ⟨32, _, rfl, by decide⟩, by decide, by decide, by decide, ⟨32, _, rfl, by decide⟩, trivial⟩
theorem A2_gd : Gd A2 := ⟨by decide, by decide, by decide, ⟨32, _, rfl, by decide⟩, trivial⟩
theorem fm_is (fr ex he : Bool) : fmP fr ex he = A0 fr ++ (pExc ex ++ pHd he) := rfl
theorem rest_nw (ex he : Bool) : Nw (pExc ex ++ pHd he) := by
  cases ex
  · cases he
    · trivial
    · exact ⟨_, rfl⟩
  · exact ⟨_, rfl⟩
theorem hd_nw (he : Bool) : Nw (pHd he) := by
  cases he
  · trivial
  · exact ⟨_, rfl⟩
theorem pr_ex (he : Bool) (t : List Nat) : pr (pExc true ++ pHd he) (10 :: t) = 1 + pr (A1 ++ pHd he) t := pr_nl cE1 (B1 ++ pHd he) t
theorem pr_he (t : List Nat) : pr (pExc false ++ pHd true) (10 :: t) = 1 + pr A2 t := pr_nl cH1 B2 t
theorem pr_h2 (t : List Nat) : pr (pHd true) (10 :: t) = 1 + pr A2 t := pr_nl cH1 B2 t
theorem A2_app : A2 ++ [] = A2 := List.append_nil _
/-- first signs of lines -/
theorem mem_lit {w : List Nat} {ps : List Pt} {l : List Nat} (h : l ∈ tx (.lit w :: ps)) : ∃ s, l = w ++ s := by
  obtain ⟨s, _, e⟩ := List.mem_map.mp h
  exact ⟨s, e.symm⟩
theorem not01 {l : List Nat} (h : l ∈ tx (A0 false)) : l ∉ tx (A0 true) := fun h2 => by
  obtain ⟨s, e⟩ := mem_lit h
  obtain ⟨s2, e2⟩ := mem_lit h2
  rw [e] at e2
  cases e2
theorem not12 {l : List Nat} (h : l ∈ tx A1) : l ∉ tx A2 := fun h2 => by
  obtain ⟨s, e⟩ := mem_lit h
  obtain ⟨s2, e2⟩ := mem_lit h2
  rw [e] at e2
  cases e2
theorem not02 {fr : Bool} {l : List Nat} (h : l ∈ tx (A0 fr)) : l ∉ tx A2 := fun h2 => by
  obtain ⟨s, e⟩ := mem_lit h
  obtain ⟨s2, e2⟩ := mem_lit h2
  rw [e] at e2
  cases fr <;> cases e2
/-! the greatest common beginning -/
def mx (l : List Nat) (M : List (List Nat)) : Nat := M.foldl (fun b o => max b (lcp o l)) 0
theorem fold_mx (l : List Nat) : ∀ (M : List (List Nat)) (b : Nat), b ≤ M.foldl (fun b o => max b (lcp o l)) b ∧ (∀ o ∈ M, lcp o l ≤ M.foldl (fun b o => max b (lcp o l)) b) ∧ (M.foldl (fun b o => max b (lcp o l)) b = b ∨ ∃ o ∈ M, M.foldl (fun b o => max b (lcp o l)) b = lcp o l)
  | [], b => ⟨Nat.le_refl _, (fun o h => nomatch h), .inl rfl⟩
  | o :: M, b => by
    obtain ⟨h1, h2, h3⟩ := fold_mx l M (max b (lcp o l))
    have e : (o :: M).foldl (fun b o => max b (lcp o l)) b = M.foldl (fun b o => max b (lcp o l)) (max b (lcp o l)) := rfl
    rw [e]
    refine ⟨by omega, fun x hx => ?_, ?_⟩
    · rcases List.mem_cons.mp hx with z | z
      · rw [z]; omega
      · exact h2 x z
    · rcases h3 with z | ⟨x, hx, z⟩
      · rw [z]
        by_cases c : b ≤ lcp o l
        · exact .inr ⟨o, List.mem_cons_self, by omega⟩
        · exact .inl (by omega)
      · exact .inr ⟨x, List.mem_cons_of_mem _ hx, z⟩
theorem mx_app {l : List Nat} {M M' : List (List Nat)} : mx l (M ++ M') = max (mx l M) (mx l M') := by
  obtain ⟨_, a2, a3⟩ := fold_mx l (M ++ M') 0
  obtain ⟨_, b2, b3⟩ := fold_mx l M 0
  obtain ⟨_, c2, c3⟩ := fold_mx l M' 0
  unfold mx
  generalize (M ++ M').foldl (fun b o => max b (lcp o l)) 0 = x at *
  generalize M.foldl (fun b o => max b (lcp o l)) 0 = y at *
  generalize M'.foldl (fun b o => max b (lcp o l)) 0 = z at *
  have h1 : y ≤ x := by
    rcases b3 with h | ⟨o, ho, h⟩
    · omega
    · rw [h]; exact a2 o (List.mem_append_left _ ho)
  have h2 : z ≤ x := by
    rcases c3 with h | ⟨o, ho, h⟩
    · omega
    · rw [h]; exact a2 o (List.mem_append_right _ ho)
  have h3 : x ≤ max y z := by
    rcases a3 with h | ⟨o, ho, h⟩
    · omega
    · rw [h]
      rcases List.mem_append.mp ho with i | i
      · have := b2 o i
        omega
      · have := c2 o i
        omega
  omega
theorem mx_tx {ps : List Pt} (h : Gd ps) (l : List Nat) : mx l (tx ps) = (run ps l).1 := by
  obtain ⟨_, a2, a3⟩ := fold_mx l (tx ps) 0
  obtain ⟨o, ho, e⟩ := run_at ps h l
  have h1 := a2 o ho
  unfold mx
  rcases a3 with z | ⟨x, hx, z⟩
  · omega
  · have := run_up ps h l x hx
    omega
def mFst : List (List Nat) := tx (A0 false) ++ tx (A0 true)
def mSnd : List (List Nat) := tx A1
def mTrd : List (List Nat) := tx A2
def menu : Nat → List (List Nat)
  | 0 => mFst
  | 1 => mSnd ++ mTrd
  | _ => mTrd
/-- the spot where lines go wrong -/
def ws (i : Nat) : List (List Nat) → Option (Nat × Nat)
  | [] => none
  | l :: r => if l ∉ menu i ∨ (r ≠ [] ∧ l ∈ mTrd) then some (i + 1, mx l (menu i) + 1) else ws (i + 1) r
def off (ls : List (List Nat)) : Nat := (ls.map fun l => l.length + 1).sum
/-- what is known of a text whose spot is (i, c) -/
structure Spot (ls : List (List Nat)) (i c : Nat) : Prop where
  ex : ∃ ls1 l ls2 c0, ls = ls1 ++ l :: ls2 ∧ i = ls1.length + 1 ∧ c = c0 + 1 ∧ c0 ≤ l.length ∧ (∀ fr ex he, pr (fmP fr ex he) (TL.joinL [10] ls) ≤ off ls1 + c0) ∧ ∃ fr ex he, pr (fmP fr ex he) (TL.joinL [10] ls) = off ls1 + c0
end Wq
set_option Elab.async false
set_option linter.all false
set_option maxRecDepth 100000
set_option maxHeartbeats 4000000
namespace Wq
open PySem PySem.Spec PyProof.Rows L2
def tlJ : List (List Nat) → List Nat
  | [] => []
  | l :: r => 10 :: TL.joinL [10] (l :: r)
theorem jn_cons (l : List Nat) : ∀ r, TL.joinL [10] (l :: r) = l ++ tlJ r
  | [] => (List.append_nil l).symm
  | m :: r => by rw [TL.joinL.eq_3]; rfl
theorem tlJ_Tl : ∀ r, Tl (tlJ r)
  | [] => .inl rfl
  | l :: r => .inr ⟨_, rfl⟩
theorem pr_A2 {l : List Nat} (hn : 10 ∉ l) {tl : List Nat} (h : Tl tl) (hl : l ∉ tx A2) : pr A2 (l ++ tl) = (run A2 l).1 := by
  have := pr_no (rest := []) A2_nl A2_gd trivial h hn hl
  rw [A2_app] at this
  exact this
theorem pr_A2y {l tl : List Nat} (h : Tl tl) (hl : l ∈ tx A2) : pr A2 (l ++ tl) = l.length + pr [] tl := by
  have := pr_yes (rest := []) A2_nl A2_gd h hl
  rw [A2_app] at this
  exact this
theorem pr_tl0 : ∀ r, r ≠ [] → pr [] (tlJ r) = 0
  | [], h => absurd rfl h
  | l :: r, _ => pr_more _ _
theorem mx_fst (l : List Nat) : mx l mFst = max (run (A0 false) l).1 (run (A0 true) l).1 := by
  unfold mFst
  rw [mx_app, mx_tx (A0_gd false), mx_tx (A0_gd true)]
theorem mx_snd (l : List Nat) : mx l (menu 1) = max (run A1 l).1 (run A2 l).1 := by
  show mx l (mSnd ++ mTrd) = _
  rw [mx_app, show mx l mSnd = _ from mx_tx A1_gd l, show mx l mTrd = _ from mx_tx A2_gd l]
theorem run_in {A : List Pt} (hG : Gd A) {l : List Nat} (h : l ∈ tx A) : (run A l).1 = l.length := by rw [(tx_run A hG l).mp h]
theorem mem_fst {l : List Nat} (h : l ∈ mFst) : ∃ f, l ∈ tx (A0 f) ∧ l ∉ tx (A0 (!f)) := by
  rcases List.mem_append.mp h with h | h
  · exact ⟨false, h, not01 h⟩
  · exact ⟨true, h, fun z => not01 z h⟩
theorem ws_yes {i : Nat} {l : List Nat} {r : List (List Nat)} (h : l ∉ menu i ∨ (r ≠ [] ∧ l ∈ mTrd)) : ws i (l :: r) = some (i + 1, mx l (menu i) + 1) := if_pos h
theorem ws_no {i : Nat} {l : List Nat} {r : List (List Nat)} (h : ¬ (l ∉ menu i ∨ (r ≠ [] ∧ l ∈ mTrd))) : ws i (l :: r) = ws (i + 1) r := if_neg h
/-- what the forms tell of a text whose first line is right -/
structure Two (l0 : List Nat) (f : Bool) (t1 : List Nat) (t : List Nat) : Prop where
  oth : ∀ ex he, pr (fmP (!f) ex he) t ≤ l0.length
  ff : pr (fmP f false false) t = l0.length
  ex : ∀ he, pr (fmP f true he) t = l0.length + 1 + pr (A1 ++ pHd he) t1
  he : pr (fmP f false true) t = l0.length + 1 + pr A2 t1
theorem two_mk {l0 : List Nat} {f : Bool} {t1 : List Nat} (hn : 10 ∉ l0) (h : l0 ∈ tx (A0 f)) (h' : l0 ∉ tx (A0 (!f))) : Two l0 f t1 (l0 ++ 10 :: t1) := by
  have hT : Tl (10 :: t1) := .inr ⟨_, rfl⟩
  refine ⟨fun ex he => ?_, ?_, fun he => ?_, ?_⟩
  · rw [fm_is, pr_no (A0_nl _) (A0_gd _) (rest_nw ex he) hT hn h']
    exact run_le _ _
  · rw [fm_is, pr_yes (A0_nl _) (A0_gd _) hT h]
    show l0.length + pr [] (10 :: t1) = _
    rw [pr_more, Nat.add_zero]
  · rw [fm_is, pr_yes (A0_nl _) (A0_gd _) hT h, pr_ex]
    omega
  · rw [fm_is, pr_yes (A0_nl _) (A0_gd _) hT h, pr_he]
    omega
theorem Two.all {l0 : List Nat} {f : Bool} {t1 t : List Nat} (T : Two l0 f t1 t) {P : Nat} (h0 : l0.length ≤ P) (h1 : ∀ he, l0.length + 1 + pr (A1 ++ pHd he) t1 ≤ P) (h2 : l0.length + 1 + pr A2 t1 ≤ P) : ∀ fr ex he, pr (fmP fr ex he) t ≤ P := by
  intro fr ex he
  by_cases e : fr = f
  · subst e
    cases ex
    · cases he
      · rw [T.ff]; exact h0
      · rw [T.he]; exact h2
    · rw [T.ex]; exact h1 he
  · have e : fr = !f := by cases fr <;> cases f <;> simp_all
    subst e
    exact Nat.le_trans (T.oth ex he) h0
theorem spot_some {ls : List (List Nat)} (hn : ∀ l ∈ ls, 10 ∉ l) {i c : Nat} (h : ws 0 ls = some (i, c)) : Spot ls i c := by
  cases ls with
  | nil => cases h
  | cons l0 r =>
  have hn0 := hn l0 List.mem_cons_self
  by_cases h0 : l0 ∈ mFst
  · obtain ⟨f, hf, hf'⟩ := mem_fst h0
    have n0 : ¬ (l0 ∉ menu 0 ∨ (r ≠ [] ∧ l0 ∈ mTrd)) := fun z => z.elim (fun z => z h0) fun z => not02 hf z.2
    rw [ws_no n0] at h
    cases r with
    | nil => cases h
    | cons l1 r1 =>
    have hn1 := hn l1 (List.mem_cons_of_mem _ List.mem_cons_self)
    have hj : TL.joinL [10] (l0 :: l1 :: r1) = l0 ++ 10 :: TL.joinL [10] (l1 :: r1) := jn_cons l0 (l1 :: r1)
    have hj1 := jn_cons l1 r1
    have hT1 := tlJ_Tl r1
    have T := two_mk (t1 := TL.joinL [10] (l1 :: r1)) hn0 hf hf'
    rw [← hj] at T
    by_cases h1 : l1 ∈ tx A1
    · have h12 := not12 h1
      have n1 : ¬ (l1 ∉ menu 1 ∨ (r1 ≠ [] ∧ l1 ∈ mTrd)) := fun z => z.elim (fun z => z (List.mem_append_left _ h1)) fun z => h12 z.2
      rw [ws_no n1] at h
      cases r1 with
      | nil => cases h
      | cons l2 r2 =>
      have hn2 := hn l2 (List.mem_cons_of_mem _ (List.mem_cons_of_mem _ List.mem_cons_self))
      have hT2 := tlJ_Tl r2
      have hj2 := jn_cons l2 r2
      have e2 : pr A2 (TL.joinL [10] (l1 :: l2 :: r2)) = (run A2 l1).1 := by rw [hj1, pr_A2 hn1 hT1 h12]
      have e2l := run_le A2 l1
      have e1 : ∀ he, pr (A1 ++ pHd he) (TL.joinL [10] (l1 :: l2 :: r2)) = l1.length + pr (pHd he) (tlJ (l2 :: r2)) := fun he => by rw [hj1, pr_yes A1_nl A1_gd hT1 h1]
      have eF : pr (pHd false) (tlJ (l2 :: r2)) = 0 := pr_more _ _
      have eT : pr (pHd true) (tlJ (l2 :: r2)) = 1 + pr A2 (TL.joinL [10] (l2 :: r2)) := pr_h2 _
      -- the third line
      have fin : ∀ c0, c0 ≤ l2.length → pr A2 (TL.joinL [10] (l2 :: r2)) = c0 → Spot (l0 :: l1 :: l2 :: r2) 3 (c0 + 1) := fun c0 hc e3 => by
        refine ⟨[l0, l1], l2, r2, c0, rfl, rfl, rfl, hc, ?_, f, true, true, ?_⟩
        · show ∀ fr ex he, _ ≤ (l0.length + 1 + (l1.length + 1 + 0)) + c0
          refine T.all (by omega) (fun he => ?_) ?_
          · rw [e1]
            cases he
            · rw [eF]; omega
            · rw [eT, e3]; omega
          · rw [e2]; omega
        · show _ = (l0.length + 1 + (l1.length + 1 + 0)) + c0
          rw [T.ex, e1, eT, e3]
          omega
      by_cases h2 : l2 ∈ tx A2
      · cases r2 with
        | nil =>
          rw [ws_no (fun z => z.elim (fun z => z h2) fun z => z.1 rfl)] at h
          cases h
        | cons l3 r3 =>
          rw [ws_yes (.inr ⟨List.cons_ne_nil _ _, h2⟩)] at h
          obtain ⟨rfl, rfl⟩ := Prod.mk.inj (Option.some.inj h)
          have em : mx l2 (menu 2) = l2.length := by rw [show mx l2 (menu 2) = _ from mx_tx A2_gd l2, run_in A2_gd h2]
          rw [em]
          refine fin l2.length (Nat.le_refl _) ?_
          rw [hj2, pr_A2y hT2 h2, pr_tl0 _ (List.cons_ne_nil _ _), Nat.add_zero]
      · rw [ws_yes (.inl h2)] at h
        obtain ⟨rfl, rfl⟩ := Prod.mk.inj (Option.some.inj h)
        have em : mx l2 (menu 2) = (run A2 l2).1 := mx_tx A2_gd l2
        rw [em]
        refine fin _ (run_le _ _) ?_
        rw [hj2, pr_A2 hn2 hT2 h2]
    · have e1 : ∀ he, pr (A1 ++ pHd he) (TL.joinL [10] (l1 :: r1)) = (run A1 l1).1 := fun he => by rw [hj1, pr_no A1_nl A1_gd (hd_nw he) hT1 hn1 h1]
      have e1l := run_le A1 l1
      have e2l := run_le A2 l1
      -- the second line
      have fin : ∀ c2, c2 ≤ l1.length → pr A2 (TL.joinL [10] (l1 :: r1)) = c2 → Spot (l0 :: l1 :: r1) 2 (max (run A1 l1).1 c2 + 1) := fun c2 hc e3 => by
        refine ⟨[l0], l1, r1, max (run A1 l1).1 c2, rfl, rfl, rfl, by omega, ?_, ?_⟩
        · show ∀ fr ex he, _ ≤ (l0.length + 1 + 0) + max (run A1 l1).1 c2
          refine T.all (by omega) (fun he => ?_) ?_
          · rw [e1]; omega
          · rw [e3]; omega
        · show ∃ fr ex he, _ = (l0.length + 1 + 0) + max (run A1 l1).1 c2
          by_cases z : c2 ≤ (run A1 l1).1
          · refine ⟨f, true, false, ?_⟩
            rw [T.ex, e1]
            omega
          · refine ⟨f, false, true, ?_⟩
            rw [T.he, e3]
            omega
      by_cases h2 : l1 ∈ tx A2
      · cases r1 with
        | nil =>
          rw [ws_no (fun z => z.elim (fun z => z (List.mem_append_right _ h2)) fun z => z.1 rfl)] at h
          cases h
        | cons l2 r2 =>
          rw [ws_yes (.inr ⟨List.cons_ne_nil _ _, h2⟩), mx_snd, run_in A2_gd h2] at h
          obtain ⟨rfl, rfl⟩ := Prod.mk.inj (Option.some.inj h)
          refine fin l1.length (Nat.le_refl _) ?_
          rw [hj1, pr_A2y hT1 h2, pr_tl0 _ (List.cons_ne_nil _ _), Nat.add_zero]
      · rw [ws_yes (.inl (fun z => (List.mem_append.mp z).elim h1 h2)), mx_snd] at h
        obtain ⟨rfl, rfl⟩ := Prod.mk.inj (Option.some.inj h)
        refine fin _ e2l ?_
        rw [hj1, pr_A2 hn1 hT1 h2]
  · have hT := tlJ_Tl r
    rw [ws_yes (.inl h0), show menu 0 = mFst from rfl, mx_fst] at h
    obtain ⟨rfl, rfl⟩ := Prod.mk.inj (Option.some.inj h)
    have h1 : ∀ fr, l0 ∉ tx (A0 fr) := fun fr => by
      cases fr
      · exact fun z => h0 (List.mem_append_left _ z)
      · exact fun z => h0 (List.mem_append_right _ z)
    have e : ∀ fr ex he, pr (fmP fr ex he) (TL.joinL [10] (l0 :: r)) = (run (A0 fr) l0).1 := fun fr ex he => by
      rw [fm_is, jn_cons, pr_no (A0_nl fr) (A0_gd fr) (rest_nw ex he) hT hn0 (h1 fr)]
    have b0 := run_le (A0 false) l0
    have b1 := run_le (A0 true) l0
    refine ⟨[], l0, r, _, rfl, rfl, rfl, by omega, fun fr ex he => ?_, ?_⟩
    · rw [e]
      show _ ≤ 0 + max (run (A0 false) l0).1 (run (A0 true) l0).1
      cases fr <;> omega
    · show ∃ fr ex he, _ = 0 + max (run (A0 false) l0).1 (run (A0 true) l0).1
      by_cases z : (run (A0 true) l0).1 ≤ (run (A0 false) l0).1
      · refine ⟨false, false, false, ?_⟩
        rw [e]; omega
      · refine ⟨true, false, false, ?_⟩
        rw [e]; omega
theorem spot_none {ls : List (List Nat)} (hne : ls ≠ []) (hn : ∀ l ∈ ls, 10 ∉ l) (h : ws 0 ls = none) : ∃ fr ex he, pr (fmP fr ex he) (TL.joinL [10] ls) = (TL.joinL [10] ls).length + 1 := by
  cases ls with
  | nil => exact absurd rfl hne
  | cons l0 r =>
  have hn0 := hn l0 List.mem_cons_self
  have g0 : ¬ (l0 ∉ menu 0 ∨ (r ≠ [] ∧ l0 ∈ mTrd)) := fun z => by rw [ws_yes z] at h; cases h
  rw [ws_no g0] at h
  have h0 : l0 ∈ mFst := Classical.not_not.mp fun z => g0 (.inl z)
  obtain ⟨f, hf, hf'⟩ := mem_fst h0
  cases r with
  | nil =>
    refine ⟨f, false, false, ?_⟩
    rw [fm_is, jn_cons, pr_yes (A0_nl f) (A0_gd f) (tlJ_Tl []) hf]
    show l0.length + 1 = (l0 ++ []).length + 1
    rw [List.append_nil]
  | cons l1 r1 =>
  have hj : TL.joinL [10] (l0 :: l1 :: r1) = l0 ++ 10 :: TL.joinL [10] (l1 :: r1) := jn_cons l0 (l1 :: r1)
  have T := two_mk (t1 := TL.joinL [10] (l1 :: r1)) hn0 hf hf'
  rw [← hj] at T
  have hlen : (TL.joinL [10] (l0 :: l1 :: r1)).length = l0.length + 1 + (TL.joinL [10] (l1 :: r1)).length := by
    rw [hj, List.length_append]
    show _ + (_ + 1) = _
    omega
  rw [hlen]
  have g1 : ¬ (l1 ∉ menu 1 ∨ (r1 ≠ [] ∧ l1 ∈ mTrd)) := fun z => by rw [ws_yes z] at h; cases h
  rw [ws_no g1] at h
  have h1 : l1 ∈ mSnd ++ mTrd := Classical.not_not.mp fun z => g1 (.inl z)
  have hT1 := tlJ_Tl r1
  rcases List.mem_append.mp h1 with h1 | h1
  · cases r1 with
    | nil =>
      refine ⟨f, true, false, ?_⟩
      rw [T.ex, jn_cons, pr_yes A1_nl A1_gd hT1 h1]
      show l0.length + 1 + (l1.length + 1) = l0.length + 1 + (l1 ++ []).length + 1
      rw [List.append_nil]
      omega
    | cons l2 r2 =>
      have g2 : ¬ (l2 ∉ menu 2 ∨ (r2 ≠ [] ∧ l2 ∈ mTrd)) := fun z => by rw [ws_yes z] at h; cases h
      have h2 : l2 ∈ mTrd := Classical.not_not.mp fun z => g2 (.inl z)
      have hr2 : r2 = [] := Classical.not_not.mp fun z => g2 (.inr ⟨z, h2⟩)
      subst hr2
      refine ⟨f, true, true, ?_⟩
      rw [T.ex, jn_cons, pr_yes A1_nl A1_gd hT1 h1]
      have e : pr (pHd true) (tlJ [l2]) = 1 + pr A2 (TL.joinL [10] [l2]) := pr_h2 _
      rw [e, jn_cons, pr_A2y (tlJ_Tl []) h2]
      show l0.length + 1 + (l1.length + (1 + (l2.length + 1))) = l0.length + 1 + (l1 ++ 10 :: l2).length + 1
      rw [List.length_append]
      show _ = l0.length + 1 + (l1.length + (l2.length + 1)) + 1
      omega
  · have hr1 : r1 = [] := Classical.not_not.mp fun z => g1 (.inr ⟨z, h1⟩)
    subst hr1
    refine ⟨f, false, true, ?_⟩
    rw [T.he, jn_cons, pr_A2y hT1 h1]
    show l0.length + 1 + (l1.length + 1) = l0.length + 1 + (l1 ++ []).length + 1
    rw [List.append_nil]
    omega
end Wq
set_option Elab.async false
set_option linter.all false
set_option maxRecDepth 100000
set_option maxHeartbeats 4000000
namespace Wq
open PySem PySem.Spec PyProof.Rows L2
/-! texts and their lines -/
def lns : List Nat → List (List Nat)
  | [] => [[]]
  | c :: r => if c = 10 then [] :: lns r else
    match lns r with
    | [] => [[c]]
    | l :: ls => (c :: l) :: ls
theorem jn_two (l m : List Nat) (r : List (List Nat)) : TL.joinL [10] (l :: m :: r) = l ++ 10 :: TL.joinL [10] (m :: r) := by rw [TL.joinL.eq_3]; rfl
theorem lns_ok : ∀ t, lns t ≠ [] ∧ (∀ l ∈ lns t, 10 ∉ l) ∧ TL.joinL [10] (lns t) = t
  | [] => ⟨List.cons_ne_nil _ _, fun l h => by rw [List.mem_singleton.mp h]; exact List.not_mem_nil, rfl⟩
  | c :: r => by
    obtain ⟨h1, h2, h3⟩ := lns_ok r
    unfold lns
    by_cases e : c = 10
    · rw [if_pos e]
      refine ⟨List.cons_ne_nil _ _, fun l hl => ?_, ?_⟩
      · rcases List.mem_cons.mp hl with z | z
        · rw [z]; exact List.not_mem_nil
        · exact h2 l z
      · cases el : lns r with
        | nil => exact absurd el h1
        | cons m ms =>
          rw [jn_two, ← el, h3, e]
          rfl
    · rw [if_neg e]
      cases el : lns r with
      | nil => exact absurd el h1
      | cons m ms =>
        rw [el] at h2 h3
        refine ⟨List.cons_ne_nil _ _, fun l hl => ?_, ?_⟩
        · rcases List.mem_cons.mp hl with z | z
          · rw [z]
            intro hm
            rcases List.mem_cons.mp hm with y | y
            · exact e y.symm
            · exact h2 m List.mem_cons_self y
          · exact h2 l (List.mem_cons_of_mem _ z)
        · show TL.joinL [10] ((c :: m) :: ms) = c :: r
          rw [← h3, jn_cons, jn_cons]
          rfl
theorem lns_spl (t : List Nat) : TL.spl [10] 0 [] t = lns t := by
  obtain ⟨h1, h2, h3⟩ := lns_ok t
  have := SX.spl_join (c := 10) (sep := []) h1 h2
  rw [h3] at this
  exact this
theorem lns_join {ls : List (List Nat)} (h1 : ls ≠ []) (h2 : ∀ l ∈ ls, 10 ∉ l) : lns (TL.joinL [10] ls) = ls := by
  rw [← lns_spl]
  exact SX.spl_join (c := 10) (sep := []) h1 h2
/-! what goes on ahead of a place -/
def pre (ls : List (List Nat)) : List Nat := ls.flatMap fun l => l ++ [10]
theorem pre_len : ∀ ls, (pre ls).length = off ls
  | [] => rfl
  | l :: r => by
    have := pre_len r
    show ((l ++ [10]) ++ pre r).length = (l.length + 1) + off r
    rw [List.length_append, List.length_append, this]
    rfl
theorem jn_pre : ∀ (ls1 : List (List Nat)) (l : List Nat) (ls2 : List (List Nat)), TL.joinL [10] (ls1 ++ l :: ls2) = pre ls1 ++ (l ++ tlJ ls2)
  | [], l, ls2 => jn_cons l ls2
  | m :: r, l, ls2 => by
    have ih := jn_pre r l ls2
    cases r with
    | nil =>
      show TL.joinL [10] (m :: l :: ls2) = ((m ++ [10]) ++ []) ++ (l ++ tlJ ls2)
      rw [jn_two, jn_cons, List.append_nil, List.append_assoc]
      rfl
    | cons x r =>
      show TL.joinL [10] (m :: x :: (r ++ l :: ls2)) = ((m ++ [10]) ++ pre (x :: r)) ++ (l ++ tlJ ls2)
      have ih : TL.joinL [10] (x :: (r ++ l :: ls2)) = pre (x :: r) ++ (l ++ tlJ ls2) := ih
      rw [jn_two, ih]
      simp only [List.append_assoc, List.cons_append, List.nil_append]
theorem take_pre {ls1 : List (List Nat)} {l : List Nat} {ls2 : List (List Nat)} {c : Nat} (hc : c ≤ l.length) : (TL.joinL [10] (ls1 ++ l :: ls2)).take (off ls1 + c) = TL.joinL [10] (ls1 ++ [l.take c]) := by
  rw [jn_pre, jn_pre ls1 (l.take c) [], ← pre_len, List.take_length_add_append, List.take_append_of_le_length hc]
  show _ = pre ls1 ++ (l.take c ++ [])
  rw [List.append_nil]
/-- the furthest place, and the line and the column there -/
structure Wrong (t : List Nat) (P i c : Nat) : Prop where
  le : P ≤ t.length
  all : ∀ fr ex he, pr (fmP fr ex he) t ≤ P
  is : ∃ fr ex he, pr (fmP fr ex he) t = P
  ln : (lns (t.take P)).length = i
  cl : ((lns (t.take P)).getLast?.getD []).length + 1 = c
theorem wrong_of {t : List Nat} {i c : Nat} (h : ws 0 (lns t) = some (i, c)) : ∃ P, Wrong t P i c := by
  obtain ⟨h1, h2, h3⟩ := lns_ok t
  obtain ⟨ls1, l, ls2, c0, e, ei, ec, hc, ha, hx⟩ := (spot_some h2 h).ex
  rw [h3] at ha hx
  have htk := take_pre (ls1 := ls1) (ls2 := ls2) hc
  rw [← e, h3] at htk
  have hn : ∀ m ∈ ls1 ++ [l.take c0], 10 ∉ m := by
    rw [e] at h2
    intro m hm
    rcases List.mem_append.mp hm with z | z
    · exact h2 m (List.mem_append_left _ z)
    · rw [List.mem_singleton.mp z]
      exact fun y => h2 l (List.mem_append_right _ List.mem_cons_self) (List.mem_of_mem_take y)
  have hl : lns (t.take (off ls1 + c0)) = ls1 ++ [l.take c0] := by rw [htk, lns_join (by simp) hn]
  refine ⟨off ls1 + c0, ?_, ha, hx, ?_, ?_⟩
  · have e2 : t = pre ls1 ++ (l ++ tlJ ls2) := by rw [← jn_pre, ← e, h3]
    rw [e2, List.length_append, List.length_append, pre_len]
    omega
  · rw [hl, List.length_append, ei]
    rfl
  · rw [hl, List.getLast?_append]
    show (l.take c0).length + 1 = c
    rw [List.length_take, ec]
    omega
/-! whole texts -/
theorem fm_gd (fr ex he : Bool) : Gd (fmP fr ex he) := by
  cases fr <;> cases ex <;> cases he <;> refine ⟨by decide, by decide, by decide, ?_, ?_⟩ <;> first | trivial | exact ⟨10, _, rfl, by decide⟩ | skip
  all_goals first | exact ⟨by decide, by decide, by decide, ⟨32, _, rfl, by decide⟩, trivial⟩ | exact ⟨by decide, by decide, by decide, ⟨32, _, rfl, by decide⟩, by decide, by decide, by decide, ⟨32, _, rfl, by decide⟩, trivial⟩ | exact ⟨by decide, by decide, by decide, ⟨32, _, rfl, by decide⟩, by decide, by decide, by decide, ⟨32, _, rfl, by decide⟩, by decide, by decide, by decide, ⟨32, _, rfl, by decide⟩, trivial⟩
theorem pr_whole {ps : List Pt} (hG : Gd ps) {t : List Nat} : pr ps t = t.length + 1 ↔ t ∈ tx ps := by
  rw [tx_run ps hG t]
  unfold pr
  have hle := run_le ps t
  constructor
  · intro h
    by_cases c : (run ps t).2 = true ∧ (run ps t).1 = t.length
    · exact Prod.ext c.2 c.1
    · rw [if_neg c] at h
      omega
  · intro h
    rw [h, if_pos ⟨rfl, rfl⟩]
theorem nohd {hd : Int} (h : hd < 0) : tHd hd = [] := by
  unfold tHd
  rw [if_neg (by omega)]
/-- a whole text is that of a layout -/
theorem whole_is {fr ex he : Bool} {t : List Nat} (h : t ∈ tx (fmP fr ex he)) : ∃ y hd, PaX y hd ∧ (0 ≤ hd ∨ hd = -1) ∧ t = Tx y hd := by
  obtain ⟨s0, hs0, rfl⟩ := List.mem_map.mp h
  clear h
  obtain ⟨B, B1, B2, s, hs, rfl⟩ := tx_num.mp hs0
  clear hs0
  have hs : s ∈ tx (pExc ex ++ pHd he) := hs
  have hE : ∃ (E X : Nat) (u : List Nat), u ∈ tx (pHd he) ∧ s = tEx E X ++ u ∧ E ≤ 4 ∧ X ≤ 24 ∧ (0 < E → 1 ≤ X) ∧ (¬ 0 < E → X = 0) := by
    cases ex with
    | false => exact ⟨0, 0, s, hs, rfl, by decide, by decide, fun z => absurd z (by decide), fun _ => rfl⟩
    | true =>
      obtain ⟨s1, k1, rfl⟩ := List.mem_map.mp hs
      obtain ⟨E, E1, E2, s2, k2, rfl⟩ := tx_num.mp k1
      obtain ⟨s3, k3, rfl⟩ := List.mem_map.mp k2
      obtain ⟨X, X1, X2, s4, k4, rfl⟩ := tx_num.mp k3
      obtain ⟨s5, k5, rfl⟩ := List.mem_map.mp k4
      refine ⟨E, X, s5, k5, ?_, E2, X2, fun _ => X1, fun z => absurd E1 z⟩
      unfold tEx
      rw [if_pos (show 0 < E from E1)]
      simp only [List.append_assoc]
  obtain ⟨E, X, u, hu, rfl, hE4, hX24, hx1, hx0⟩ := hE
  clear hs
  have hH : ∃ hd : Int, u = tHd hd ∧ hd ≤ 64 ∧ (0 ≤ hd ∨ hd = -1) := by
    cases he with
    | false =>
      have : u = [] := List.mem_singleton.mp hu
      exact ⟨-1, by rw [this, nohd (by decide)], by decide, .inr rfl⟩
    | true =>
      obtain ⟨s1, k1, rfl⟩ := List.mem_map.mp hu
      obtain ⟨h, H1, H2, s2, k2, rfl⟩ := tx_num.mp k1
      obtain ⟨s3, k3, rfl⟩ := List.mem_map.mp k2
      have : s3 = [] := List.mem_singleton.mp k3
      subst this
      refine ⟨(h : Int), ?_, by omega, .inl (by omega)⟩
      unfold tHd
      rw [if_pos (by omega), show ((h : Int)).toNat = h by omega, List.append_nil]
  obtain ⟨hd, rfl, h64, hs⟩ := hH
  refine ⟨⟨fr, B, E, X, if hd < 0 then 8 else hd.toNat⟩, hd, ⟨⟨⟨B1, B2, hE4, hX24, ?_⟩, hx1, h64, ?_⟩, hx0⟩, hs, rfl⟩
  · show (if hd < 0 then 8 else hd.toNat) ≤ 64
    split <;> omega
  · unfold HdOk
    show (((if hd < 0 then 8 else hd.toNat : Nat)) : Int) = if hd < 0 then 8 else hd
    split <;> omega
/-- right texts are those of layouts, and no others -/
theorem right_or {t : List Nat} : (ws 0 (lns t) = none ∧ ∃ y hd, PaX y hd ∧ (0 ≤ hd ∨ hd = -1) ∧ t = Tx y hd) ∨ ∃ i c, ws 0 (lns t) = some (i, c) ∧ ∃ P, Wrong t P i c := by
  obtain ⟨h1, h2, h3⟩ := lns_ok t
  cases e : ws 0 (lns t) with
  | none =>
    obtain ⟨fr, ex, he, hp⟩ := spot_none h1 h2 e
    rw [h3] at hp
    exact .inl ⟨rfl, whole_is ((pr_whole (fm_gd fr ex he)).mp hp)⟩
  | some p => exact .inr ⟨p.1, p.2, rfl, wrong_of e⟩
end Wq
set_option Elab.async false
set_option linter.all false
set_option maxRecDepth 100000
set_option maxHeartbeats 4000000
namespace Wq
open PySem PySem.Spec PyProof.Rows L2
open SX (S S_len S_cat S_beq_eq)
theorem catA_of {K : PySem.W.Frag} {H : Hp} {a b : Addr} {xs ys : List V} {Q : VK} (ha : SqT K H a xs) (hb : SqT K H b ys) (hl : xs.length + ys.length ≤ 100) (k : ∀ c G, Same H G → SqT K G c (xs ++ ys) → Q (.ref c) G) : rCatA K (.ref a) (.ref b) H Q := by
  refine ⟨a, b, xs, ys, rfl, rfl, ha, hb, by rw [sizeLine_eq]; omega, fun e => ?_, fun _ e => ?_, fun _ _ p hp => k p _ (sNew hp) (.inl (.inl upd_same))⟩
  · exact k b H (.refl _) (by rw [e]; exact hb)
  · exact k a H (.refl _) (by rw [e, List.append_nil]; exact ha)
theorem dec_b2 {i : Nat} : decide (V.int (0 + (i : Int)) = V.int 1) = b2 i := by
  unfold b2
  refine decide_eq_decide.mpr ⟨fun z => ?_, fun z => by rw [z]; rfl⟩
  have := V.int.inj z
  omega
theorem b2_bn (b : Bool) : b2 (bn b) = b := by cases b <;> rfl
theorem fm_len {fr ex he : Bool} : (fmP fr ex he).length ≤ 100 := by cases fr <;> cases ex <;> cases he <;> decide
theorem pe_len {ex : Bool} : (pExc ex).length ≤ 10 := by cases ex <;> decide
theorem ph_len {ex : Bool} : (pHd ex).length ≤ 10 := by cases ex <;> decide
theorem lit_n : V.str "\n" = V.str (S [10]) := congrArg V.str (show ("\n" : Str) = S [10] by decide +kernel)
theorem err2_pre {H G G2 : Hp} {d : Addr} {fs : List (Str × V)} (s : Same H G) (h : Err2 G G2 d fs) : Err2 H G2 d fs := by
  obtain ⟨h1, h2, h3⟩ := h
  refine ⟨s.trans h1, ?_, h3⟩
  cases z : H d with
  | none => rfl
  | some u =>
    rw [s _ _ z] at h2
    cases h2
/-- not a text -/
def NoStr (K : PySem.W.Frag) (H : Hp) (v : V) : Prop := ∃ ty : String, TyX K H v (.type ty) ∧ kitB ty "str" = some false
def spRG (K : PySem.W.Frag) (CT : Addr) : Sp := fun vs H Q E => ∃ v : V, vs = [v] ∧
  ((∃ t : List Nat, v = .str (S t) ∧ t.length ≤ 400 ∧ (∀ y hd, PaX y hd → t = Tx y hd → ∀ r G, Same H G → G r = some (.tup (five y)) → Q (.ref r) G) ∧
    ∀ i c, ws 0 (lns t) = some (i, c) → ∀ d H', Err2 H H' d [("column", nI c), ("line", nI i)] → E (.ref CT) (some d) H') ∨
   (NoStr K H v ∧ ∀ d H', Err2 H H' d [("column", nI 1), ("line", nI 1)] → E (.ref CT) (some d) H'))
section
variable {P : Program} {w : World} {K : PySem.W.Frag} {mg : Str → Option Value} {base : Heap} {C CT fT : Addr}
theorem ok_RL {fdT : FuncData} (D : DefAt K mg "read_layout" sRL) (T : Txt K mg) (TL : TxtL K mg C) (F : Forms K mg) (TE : TxtE K mg CT fT "BadText" "line" "column") (GI : FnOk P w K mg base CX0 1 fT fdT ["self", "line", "column"] (spE2 CT "line" "column")) (bI : L2.Binds K fdT ["self", "line", "column"] [])
    (CR : Cl P w K mg base 3 "read_form" (spRF K)) (CL : Cl P w K mg base 1 "told_layout" (spTL K)) : Cle P w K mg base 4 "read_layout" (spRG K CT) := by
  obtain ⟨f, fd, FF, hm⟩ := D.ex
  refine ⟨f, fd, ["text"], FF.okX scRL (fun vs H Q E h => ?_) (fun cdv A outer s H vs Q E hr h => ?_), hm, FF.kp, FF.binds fun _ _ _ _ _ _ us hl => match us, hl with | [_], _ => rfl⟩
  · obtain ⟨v, rfl, _⟩ := h
    rfl
  · obtain ⟨v, rfl, h⟩ := h
    obtain ⟨b, e, hh, g1, g2, g3, ⟨xb0, xb1, sb, fb⟩, ⟨xe0, xe1, se, fe⟩, ⟨xh0, xh1, sh, fh⟩⟩ := F.get
    refine ⟨_, pss_cons (ps_if (pt_not (pt_val (pe_callB call_isi (by rfl) (by exact TL.isi) (by decide +kernel) (pa_cons (pv 0) (pa_cons (pe_bltn rfl (by exact TL.str) (by decide +kernel) (v := .ty "str") rfl) pa_nil)))))
(pss_one (ps_raise rfl (takes_of rfl rfl rfl rfl) (pmk_oex TE.ox TE.iC TE.tI GI (hr.mono (by decide)) bI .nil pass0 rfl (by exact TE.gC) (by exact (pa_cons pe_int (pa_cons pe_int pa_nil))))))
pss_nil)
(pss_cons (ps_set (i := 1) scRL.nd rfl (Or.inl rfl) pe_int)
(C8.pss_cut (ps_for (passes_of rfl) rfl (pi_range1 rfl (by exact T.range) (pa_cons pe_int pa_nil)) (pg_name (i := 2) scRL.nd rfl (Or.inl rfl))
(pss_one (ps_for (passes_of rfl) rfl (pi_range1 rfl (by exact T.range) (pa_cons pe_int pa_nil)) (pg_name (i := 3) scRL.nd rfl (Or.inl rfl))
(pss_one (ps_for (passes_of rfl) rfl (pi_range1 rfl (by exact T.range) (pa_cons pe_int pa_nil)) (pg_name (i := 4) scRL.nd rfl (Or.inl rfl))
(pss_cons (ps_set (i := 5) scRL.nd rfl (Or.inl rfl) (pe_op op_catA (pe_op op_catA (pe_ix ix_tup (pe_glob rfl (by exact g1) (v := .ref b) rfl) (pv 2) (fun _ _ => rfl)) (pe_ix ix_tup (pe_glob rfl (by exact g2) (v := .ref e) rfl) (pv 3) (fun _ _ => rfl))) (pe_ix ix_tup (pe_glob rfl (by exact g3) (v := .ref hh) rfl) (pv 4) (fun _ _ => rfl))))
(pss_cons (ps_asg (pe_cl CR hr (by decide) rfl (pa_cons (pv 0) (pa_cons (pv 5) pa_nil))) (pg_tup (by rfl) (pgs_cons (pg_name (i := 6) scRL.nd rfl (Or.inl rfl)) (pgs_cons (pg_name (i := 7) scRL.nd rfl (Or.inl rfl)) pgs_nil))))
(pss_cons (ps_if (pt_cmpR op_gt (pv 6) (pe_callB call_len_str (by rfl) (by exact T.len) PySem.boot_len (pa_cons (pv 0) pa_nil)) (nomark _))
(pss_one (ps_ret (pe_cl CL hr (by decide) rfl (pa_cons (pe_cmpR op_eq (pv 2) pe_int (nomark _)) (pa_cons (pv 7) (pa_cons (pe_cmpR op_eq (pv 3) pe_int (nomark _)) (pa_cons (pe_cmpR op_eq (pv 4) pe_int (nomark _)) pa_nil)))))))
pss_nil)
(pss_one (ps_set (i := 1) scRL.nd rfl (Or.inl rfl) (pe_callB (call_max2 rfl) (by rfl) (by exact TL.max) (by decide +kernel) (pa_cons (pv 1) (pa_cons (pv 6) pa_nil)))))))))))))
(pss_cons (ps_set (i := 8) scRL.nd rfl (Or.inl rfl) (pe_split (pe_slice sl_str (pv 0) po_none (po_some (pv 1))) pe_str))
(pss_one (ps_raise rfl (takes_of rfl rfl rfl rfl) (pmk_oex TE.ox TE.iC TE.tI GI (hr.mono (by decide)) bI .nil pass0 rfl (by exact TE.gC) (by exact (pa_cons (pe_callB call_len_seq (by rfl) (by exact T.len) PySem.boot_len (pa_cons (pv 8) pa_nil)) (pa_cons (pe_op op_add (pe_callB call_len_str (by rfl) (by exact T.len) PySem.boot_len (pa_cons (pe_ix ix_list (pv 8) (pe_un un_neg pe_int) (fun _ _ => rfl)) pa_nil)) pe_int) pa_nil))))))))), ?_⟩
    rcases h with ⟨t, rfl, htl, k1, k2⟩ | ⟨⟨ty, hty, hkt⟩, k2⟩
    rotate_left
    · refine ⟨_, rfl, _, .ty "str", _, _, _, rfl, .ty "str", hty, kit_ty (r := false) hkt, false, rfl, ?_⟩
      refine (if_pos (by decide)).mpr ?_
      refine ⟨(by show 2 ≤ 1000; decide), fun p hp => ⟨p, _, _, rfl, upd_same, fun d hd hdp => ⟨rfl, d, _, by rw [upd_ne hdp.symm]; exact upd_same, upd_same, by rw [upd_ne hdp] at hd; exact hd, ?_⟩⟩⟩
      exact k2 d _ (err2_heap (f1 := "line") (f2 := "column") (v1 := .int 1) (v2 := .int 1) hp hd hdp)
    have hzt : (S t).length ≤ sizeLine := by rw [S_len, sizeLine_eq]; omega
    have hSt : (S t).length = t.length := S_len _
    refine ⟨_, rfl, .str (S t), .ty "str", _, _, _, rfl, .ty "str", .base (.str _), kit_ty (r := true) (by decide +kernel), true, rfl, ?_⟩
    refine (if_neg (by decide)).mpr ?_
    have eI : ∀ {n : Nat} {zs : List V} {v : V}, zs[n]? = some v → atI zs (0 + (n : Int)) = some v := fun h => by rw [Int.zero_add]; exact atI_nat h
    rcases right_or (t := t) with ⟨_, y, hd, hp, _, rfl⟩ | ⟨ln, cl, hws, PP, W⟩
    · have hTl := Tx_len hp.toPaOk
      have hb0 := bn_le y.fr
      have hb1 := bn_le (exB y)
      have hb2 := bn_le (heB hd)
      refine ⟨fun _ _ => False, ?_, fun σ G z => z.elim⟩
      refine ⟨_, rfl, by decide, by decide, ?_⟩
      refine for_range (lo := 0) (n := 2) (fun i σ G => ∃ (fu : Nat) (x2 x3 x4 x5 x6 x7 x8 : Option V), σ = [some (.str (S (Tx y hd))), some (nI fu), x2, x3, x4, x5, x6, x7, x8] ∧ Same H G ∧ fu ≤ (Tx y hd).length ∧ 4 * i ≤ 4 * bn y.fr + 2 * bn (exB y) + bn (heB hd)) ⟨0, _, _, _, _, _, _, _, rfl, .refl _, Nat.zero_le _, Nat.zero_le _⟩ ?_ ?_
      · rintro i σ G hi ⟨fu, x2, x3, x4, x5, x6, x7, x8, rfl, sG, hfu, hti⟩
        refine ⟨_, rfl, by decide, by decide, ?_⟩
        refine for_range (lo := 0) (n := 2) (fun j σ G => ∃ (fu : Nat) (x3 x4 x5 x6 x7 x8 : Option V), σ = [some (.str (S (Tx y hd))), some (nI fu), some (.int (0 + (i : Int))), x3, x4, x5, x6, x7, x8] ∧ Same H G ∧ fu ≤ (Tx y hd).length ∧ 4 * i + 2 * j ≤ 4 * bn y.fr + 2 * bn (exB y) + bn (heB hd)) ⟨fu, _, _, _, _, _, _, rfl, sG, hfu, hti⟩ ?_ ?_
        · rintro j σ G2 hj ⟨fu, x3, x4, x5, x6, x7, x8, rfl, sG, hfu, htj⟩
          refine ⟨_, rfl, by decide, by decide, ?_⟩
          refine for_range (lo := 0) (n := 2) (fun l σ G => ∃ (fu : Nat) (x4 x5 x6 x7 x8 : Option V), σ = [some (.str (S (Tx y hd))), some (nI fu), some (.int (0 + (i : Int))), some (.int (0 + (j : Int))), x4, x5, x6, x7, x8] ∧ Same H G ∧ fu ≤ (Tx y hd).length ∧ 4 * i + 2 * j + l ≤ 4 * bn y.fr + 2 * bn (exB y) + bn (heB hd)) ⟨fu, _, _, _, _, _, rfl, sG, hfu, htj⟩ ?_ ?_
          · rintro l σ G3 hl ⟨fu, x4, x5, x6, x7, x8, rfl, sG, hfu, htl2⟩
            obtain ⟨a1, xs1, ha1, hs1, hn1, hf1⟩ := fb i hi
            obtain ⟨a2, xs2, ha2, hs2, hf2⟩ := fe j hj
            obtain ⟨a3, xs3, ha3, hs3, hf3⟩ := fh l hl
            have hF : FmV K ((xs1 ++ xs2) ++ xs3) (fmP (b2 i) (b2 j) (b2 l)) := by
              unfold fmP
              rw [← List.append_assoc]
              exact FmV.app (FmV.app hf1 hf2) hf3
            have l1 := hf1.len
            have l2 := hf2.len
            have l3 := hf3.len
            have p2 := pe_len (ex := b2 j)
            have p3 := ph_len (ex := b2 l)
            have l1 : xs1.length = 2 := l1
            refine ⟨_, rfl, b, _, _, _, rfl, rfl, sb.sq, eI ha1, _, rfl, e, _, _, _, rfl, rfl, se.sq, eI ha2, catA_of hs1.sq hs2.sq (by omega) fun c1 H1 s1 hc1 => ?_⟩
            refine ⟨_, rfl, hh, _, _, _, rfl, rfl, sh.sq, eI ha3, catA_of hc1 hs3.sq (by rw [List.length_append]; omega) fun c2 H2 s2 hc2 => ?_⟩
            refine ⟨_, rfl, _, rfl, Tx y hd, c2, _, _, rfl, hc2, hF, by omega, fm_len, fun w hw => lit_ok hw, fun r np G4 s4 hr4 hnp => ?_⟩
            have sA := sG.trans (s1.trans (s2.trans s4))
            refine ⟨r, _, rfl, .inl (.inl hr4), rfl, _, _, rfl, _, _, rfl, rfl, ?_⟩
            refine ⟨_, rfl, _, rfl, S (Tx y hd), rfl, hzt, _, _, rfl, rfl, _, rfl, ?_⟩
            by_cases ht : 4 * i + 2 * j + l = 4 * bn y.fr + 2 * bn (exB y) + bn (heB hd)
            · obtain ⟨e1, e2, e3⟩ := now hi hj hl _ _ _ ht
              rw [e1, e2, e3, rf_right hp.toPaOk] at hnp ⊢
              refine (if_pos (decide_eq_true (by show ((S (Tx y hd)).length : Int) < (((Tx y hd).length + 1 : Nat) : Int); omega))).mpr ?_
              refine ⟨_, rfl, rfl, _, rfl, _, rfl, rfl, _, rfl, rfl, y, hd, np, ?_, hp, hnp, fun r2 G5 s5 hr5 => k1 y hd hp rfl r2 G5 (sA.trans s5) hr5⟩
              rw [dec_b2, dec_b2, dec_b2, e1, e2, e3]
              rfl
            · have hw := rf_wrong hp.toPaOk (b2 i) (b2 j) (b2 l) (earlier hi hj hl _ _ _ (by omega))
              generalize rf (Tx y hd) (fmP (b2 i) (b2 j) (b2 l)) 0 [] = R at *
              refine (if_neg (fun z => ?_)).mpr ?_
              · have z : ((S (Tx y hd)).length : Int) < ((R.1 : Nat) : Int) := of_decide_eq_true z
                omega
              · refine ⟨_, rfl, _, rfl, _, _, rfl, ?_⟩
                have e9 : (if ((R.1 : Nat) : Int) > ((fu : Nat) : Int) then ((R.1 : Nat) : Int) else ((fu : Nat) : Int)) = ((max fu R.1 : Nat) : Int) := by
                  split <;> omega
                refine ⟨max fu R.1, _, _, _, _, _, congrArg (fun z => [some (V.str (S (Tx y hd))), some (V.int z), some (.int (0 + (i : Int))), some (.int (0 + (j : Int))), some (.int (0 + (l : Int))), some (.ref c2), some (nI R.1), some (.ref np), x8]) e9, sA, by omega, by omega⟩
          · rintro σ G3 ⟨fu, x4, x5, x6, x7, x8, rfl, sG, hfu, htl2⟩
            exact ⟨fu, _, _, _, _, _, _, rfl, sG, hfu, by omega⟩
        · rintro σ G2 ⟨fu, x3, x4, x5, x6, x7, x8, rfl, sG, hfu, htl2⟩
          exact ⟨fu, _, _, _, _, _, _, _, rfl, sG, hfu, by omega⟩
      · rintro σ G ⟨fu, x2, x3, x4, x5, x6, x7, x8, rfl, sG, hfu, htl2⟩
        omega
    · have hP := W.le
      refine ⟨fun σ G => ∃ (x2 x3 x4 x5 x6 x7 x8 : Option V), σ = [some (.str (S t)), some (nI PP), x2, x3, x4, x5, x6, x7, x8] ∧ Same H G, ?_, ?_⟩
      · refine ⟨_, rfl, by decide, by decide, ?_⟩
        refine for_range (lo := 0) (n := 2) (fun i σ G => ∃ (fu : Nat) (x2 x3 x4 x5 x6 x7 x8 : Option V), σ = [some (.str (S t)), some (nI fu), x2, x3, x4, x5, x6, x7, x8] ∧ Same H G ∧ fu ≤ PP ∧ ∀ a b c, a < 2 → b < 2 → c < 2 → 4 * a + 2 * b + c < 4 * i → pr (fmP (b2 a) (b2 b) (b2 c)) t ≤ fu) ⟨0, _, _, _, _, _, _, _, rfl, .refl _, Nat.zero_le _, fun _ _ _ _ _ _ z => absurd z (by omega)⟩ ?_ ?_
        · rintro i σ G hi ⟨fu, x2, x3, x4, x5, x6, x7, x8, rfl, sG, hfu, hti⟩
          refine ⟨_, rfl, by decide, by decide, ?_⟩
          refine for_range (lo := 0) (n := 2) (fun j σ G => ∃ (fu : Nat) (x3 x4 x5 x6 x7 x8 : Option V), σ = [some (.str (S t)), some (nI fu), some (.int (0 + (i : Int))), x3, x4, x5, x6, x7, x8] ∧ Same H G ∧ fu ≤ PP ∧ ∀ a b c, a < 2 → b < 2 → c < 2 → 4 * a + 2 * b + c < 4 * i + 2 * j → pr (fmP (b2 a) (b2 b) (b2 c)) t ≤ fu) ⟨fu, _, _, _, _, _, _, rfl, sG, hfu, hti⟩ ?_ ?_
          · rintro j σ G2 hj ⟨fu, x3, x4, x5, x6, x7, x8, rfl, sG, hfu, htj⟩
            refine ⟨_, rfl, by decide, by decide, ?_⟩
            refine for_range (lo := 0) (n := 2) (fun l σ G => ∃ (fu : Nat) (x4 x5 x6 x7 x8 : Option V), σ = [some (.str (S t)), some (nI fu), some (.int (0 + (i : Int))), some (.int (0 + (j : Int))), x4, x5, x6, x7, x8] ∧ Same H G ∧ fu ≤ PP ∧ ∀ a b c, a < 2 → b < 2 → c < 2 → 4 * a + 2 * b + c < 4 * i + 2 * j + l → pr (fmP (b2 a) (b2 b) (b2 c)) t ≤ fu) ⟨fu, _, _, _, _, _, rfl, sG, hfu, htj⟩ ?_ ?_
            · rintro l σ G3 hl ⟨fu, x4, x5, x6, x7, x8, rfl, sG, hfu, htl2⟩
              obtain ⟨a1, xs1, ha1, hs1, hn1, hf1⟩ := fb i hi
              obtain ⟨a2, xs2, ha2, hs2, hf2⟩ := fe j hj
              obtain ⟨a3, xs3, ha3, hs3, hf3⟩ := fh l hl
              have hF : FmV K ((xs1 ++ xs2) ++ xs3) (fmP (b2 i) (b2 j) (b2 l)) := by
                unfold fmP
                rw [← List.append_assoc]
                exact FmV.app (FmV.app hf1 hf2) hf3
              have l1 := hf1.len
              have l2 := hf2.len
              have l3 := hf3.len
              have p2 := pe_len (ex := b2 j)
              have p3 := ph_len (ex := b2 l)
              have l1 : xs1.length = 2 := l1
              refine ⟨_, rfl, b, _, _, _, rfl, rfl, sb.sq, eI ha1, _, rfl, e, _, _, _, rfl, rfl, se.sq, eI ha2, catA_of hs1.sq hs2.sq (by omega) fun c1 H1 s1 hc1 => ?_⟩
              refine ⟨_, rfl, hh, _, _, _, rfl, rfl, sh.sq, eI ha3, catA_of hc1 hs3.sq (by rw [List.length_append]; omega) fun c2 H2 s2 hc2 => ?_⟩
              refine ⟨_, rfl, _, rfl, t, c2, _, _, rfl, hc2, hF, by omega, fm_len, fun w hw => lit_ok hw, fun r np G4 s4 hr4 hnp => ?_⟩
              have sA := sG.trans (s1.trans (s2.trans s4))
              refine ⟨r, _, rfl, .inl (.inl hr4), rfl, _, _, rfl, _, _, rfl, rfl, ?_⟩
              refine ⟨_, rfl, _, rfl, S t, rfl, hzt, _, _, rfl, rfl, _, rfl, ?_⟩
              have hR := rf_pr (fmP (b2 i) (b2 j) (b2 l)) t
              have hRP := W.all (b2 i) (b2 j) (b2 l)
              rw [hR]
              generalize hpr : pr (fmP (b2 i) (b2 j) (b2 l)) t = R at *
              refine (if_neg (fun z => ?_)).mpr ?_
              · have z : ((S t).length : Int) < ((R : Nat) : Int) := of_decide_eq_true z
                omega
              · refine ⟨_, rfl, _, rfl, _, _, rfl, ?_⟩
                have e9 : (if ((R : Nat) : Int) > ((fu : Nat) : Int) then ((R : Nat) : Int) else ((fu : Nat) : Int)) = ((max fu R : Nat) : Int) := by
                  split <;> omega
                refine ⟨max fu R, _, _, _, _, _, congrArg (fun z => [some (V.str (S t)), some (V.int z), some (.int (0 + (i : Int))), some (.int (0 + (j : Int))), some (.int (0 + (l : Int))), some (.ref c2), some (nI R), some (.ref np), x8]) e9, sA, by omega, fun a b c ha hb hc hlt => ?_⟩
                by_cases he : 4 * a + 2 * b + c < 4 * i + 2 * j + l
                · have := htl2 a b c ha hb hc he
                  omega
                · have h1 : a = i := by omega
                  have h2 : b = j := by omega
                  have h3 : c = l := by omega
                  rw [h1, h2, h3, hpr]
                  omega
            · rintro σ G3 ⟨fu, x4, x5, x6, x7, x8, rfl, sG, hfu, htl2⟩
              exact ⟨fu, _, _, _, _, _, _, rfl, sG, hfu, fun a b c ha hb hc hlt => htl2 a b c ha hb hc (by omega)⟩
          · rintro σ G2 ⟨fu, x3, x4, x5, x6, x7, x8, rfl, sG, hfu, htl2⟩
            exact ⟨fu, _, _, _, _, _, _, _, rfl, sG, hfu, fun a b c ha hb hc hlt => htl2 a b c ha hb hc (by omega)⟩
        · rintro σ G ⟨fu, x2, x3, x4, x5, x6, x7, x8, rfl, sG, hfu, htl2⟩
          obtain ⟨fr, ex, he, hx⟩ := W.is
          have b0 := bn_le fr
          have b1 := bn_le ex
          have b3 := bn_le he
          have := htl2 (bn fr) (bn ex) (bn he) (by omega) (by omega) (by omega) (by omega)
          rw [b2_bn, b2_bn, b2_bn, hx] at this
          have : fu = PP := by omega
          subst this
          exact ⟨_, _, _, _, _, _, _, rfl, sG⟩
      rintro σ G ⟨x2, x3, x4, x5, x6, x7, x8, rfl, sG⟩
      have hcut : cutS (S t) none (some ((PP : Nat) : Int)) = S (t.take PP) := cutS_to t PP
      refine ⟨_, rfl, _, rfl, _, rfl, S t, rfl, hzt, ⟨_, rfl⟩, S (t.take PP), S [10], congrArg V.str hcut, congrArg (fun z => [z]) lit_n, by rfl, by rw [S_len, List.length_take, sizeLine_eq]; omega, fun p hp9 => ?_⟩
      rw [SX.split_S (b := [10]) (by decide) (by decide), lns_spl]
      have hLn := W.ln
      have hCl := W.cl
      have hne := (lns_ok (t.take PP)).1
      generalize hL : lns (t.take PP) = L at *
      rcases List.eq_nil_or_concat L with z | ⟨L0, la, z⟩
      · exact absurd z hne
      rw [List.concat_eq_append] at z
      subst z
      have hla : la.length + 1 = cl := by
        rw [← hCl, List.getLast?_append]
        rfl
      have hls : ((L0 ++ [la]).map S).map V.str = (L0.map S).map V.str ++ [V.str (S la)] := by simp
      have hlen : (((L0 ++ [la]).map S).map V.str).length = ln := by rw [List.length_map, List.length_map, hLn]
      have sp := sNew (o := .lst (((L0 ++ [la]).map S).map V.str)) hp9
      have hlaL : la.length ≤ 400 := by
        have h1 := lns_ok (t.take PP)
        rw [hL] at h1
        have h2 := congrArg List.length h1.2.2
        rw [jn_pre L0 la [], List.length_append, List.length_append, List.length_take] at h2
        omega
      refine ⟨_, rfl, p, _, rfl, .inl (.inl (.inl upd_same)), _, rfl, _, rfl, p, _, -1, V.str (S la), rfl, rfl, .inl (.inl upd_same), by rw [hls]; exact atI_last _ _, S la, rfl, by rw [S_len, sizeLine_eq]; omega, _, _, rfl, rfl, ?_⟩
      refine ⟨(by show 2 ≤ 1000; decide), fun q hq => ⟨q, _, _, rfl, upd_same, fun d hd hdp => ⟨rfl, d, _, by rw [upd_ne hdp.symm]; exact upd_same, upd_same, by rw [upd_ne hdp] at hd; exact hd, ?_⟩⟩⟩
      have er := err2_heap (f1 := "line") (f2 := "column") (v1 := .int (((((L0 ++ [la]).map S).map V.str).length : Nat) : Int)) (v2 := .int (((S la).length : Int) + 1)) hq hd hdp
      have e1 : V.int (((((L0 ++ [la]).map S).map V.str).length : Nat) : Int) = nI ln := by rw [hlen]
      have e2 : V.int (((S la).length : Int) + 1) = nI cl := congrArg V.int (by rw [S_len]; omega)
      refine k2 ln cl hws d _ (err2_pre (sG.trans sp) ⟨er.1, er.2.1, ?_⟩)
      refine er.2.2.trans ?_
      rw [e1, e2]
end
end Wq
set_option Elab.async false
set_option linter.all false
set_option maxRecDepth 100000
set_option maxHeartbeats 4000000
namespace Wq
open PySem PySem.Spec PyProof.Rows L2
open SX (S S_len S_cat S_beq_eq)
/-! an attribute as one of several targets -/
def gFld (K : PySem.W.Frag) (ta : TE) (f : Str) : TG := fun v σ H Q => ta σ H fun x H1 => ∃ a C dx fs, x = .ref a ∧ H1 a = some (.ins C dx fs) ∧ Cls K C ∧ NoAttr K C f ∧ fs.length < 1000 ∧ Q σ (upd H1 a (.ins C dx (putF f v fs)))
theorem pg_fld {X : Cx} {o : Expr} {f : Str} {pos : Pos} {ta : TE} (ho : PE X o ta) : PG X (.Attribute o f pos) (gFld X.K ta f) := by
  refine ⟨fun pins s σ H v u Q I r h => ?_⟩
  rw [assign_Attribute]
  refine wpAny_bind (wpAny_holding (thn (ho.run pins s σ H _ I h) fun ov s1 ⟨x, H1, I1, rx, a, C, dx, fs, ex, ea, c, n, l, q⟩ => ?_))
  subst ex
  obtain rfl : ov = Value.ref a := rx
  refine wpAny_bind (wpAny_standAt (wpAny_bind (wpAny_holding (setattr_ok I1 ea c n l r fun s3 I3 => ?_))))
  exact wpAny_release ⟨σ, _, I3, q⟩
theorem nostr_of {K : PySem.W.Frag} {H H' : Hp} {v : V} (h : NoStr K H v) (s : Same H H') (hs : ∀ ty, TyX K H v ty → TyX K H' v ty) : NoStr K H' v := by
  obtain ⟨ty, h1, h2⟩ := h
  exact ⟨ty, hs _ h1, h2⟩
/-- the layout at a of the text t -/
def LyT (C : Addr) (H : Hp) (a : Addr) (y : Ly) (t : List Nat) : Prop := ∃ dx, H a = some (.ins C dx (lf y (S t)))
theorem LyT.same {C : Addr} {H H' : Hp} {a : Addr} {y : Ly} {t : List Nat} (h : LyT C H a y t) (s : Same H H') : LyT C H' a y t := by
  obtain ⟨dx, e⟩ := h
  exact ⟨dx, s _ _ e⟩
abbrev sLI : Stmt := inClass (top 19) 0
theorem scLI : FnScope ["self", "text"] ["self", "text"] (defScope sLI) := ⟨rfl, rfl, rfl, by decide +kernel, rfl, by decide +kernel, by decide +kernel⟩
def spLI (K : PySem.W.Frag) (C CT : Addr) : Sp := fun vs H Q E => ∃ (p dx : Addr) (v : V), vs = [.ref p, v] ∧ H p = some (.ins C dx []) ∧
  ((∃ t : List Nat, v = .str (S t) ∧ t.length ≤ 400 ∧ (∀ y hd, PaX y hd → t = Tx y hd → ∀ G, SameP p H G → G p = some (.ins C dx (lf y (S t))) → Q .non G) ∧
    ∀ i c, ws 0 (lns t) = some (i, c) → ∀ d H', Err2 H H' d [("column", nI c), ("line", nI i)] → E (.ref CT) (some d) H') ∨
   (NoStr K H v ∧ ∀ d H', Err2 H H' d [("column", nI 1), ("line", nI 1)] → E (.ref CT) (some d) H'))
section
variable {P : Program} {w : World} {K : PySem.W.Frag} {mg : Str → Option Value} {base : Heap} {C CT : Addr}
theorem ok_LI {f : Addr} {fd : FuncData} (F : Fun K "__init__" "Layout.__init__" sLI f fd) (TL : TxtL K mg C) (CR : Cle P w K mg base 4 "read_layout" (spRG K CT)) : FnOk P w K mg base (L2.CX P w) 5 f fd ["self", "text"] (spLI K C CT) := by
  obtain ⟨g, gd, ps, G, hm, kp, hb⟩ := CR.ex
  refine F.okX scLI (fun vs H Q E h => ?_) (fun cdv A outer s H vs Q E hr h => ?_)
  · obtain ⟨p, dx, v, rfl, _⟩ := h
    rfl
  · obtain ⟨p, dx, v, rfl, hH, h⟩ := h
    refine ⟨_, pss_cons (ps_asg (pe_call G hr rfl hm kp hb .nil (passes_call (takes_of rfl rfl rfl rfl) (fun _ _ _ _ h => h)) (pa_cons (pv 1) pa_nil)) (pg_tup (by rfl) (pgs_cons (pg_fld (pv 0)) (pgs_cons (pg_fld (pv 0)) (pgs_cons (pg_fld (pv 0)) (pgs_cons (pg_fld (pv 0)) (pgs_cons (pg_fld (pv 0)) pgs_nil)))))))
(pss_one (ps_fld (pv 0) (pv 1) rfl)), ?_⟩
    refine ⟨_, rfl, v, rfl, ?_⟩
    rcases h with ⟨t, rfl, htl, k1, k2⟩ | ⟨hns, k2⟩
    · refine .inl ⟨t, rfl, htl, fun y hd hp e r G sG hr4 => ?_, fun i c hws d H' hE => k2 i c hws d H' hE⟩
      refine ⟨r, _, rfl, .inl (.inl hr4), rfl, _, _, rfl, _, rfl, p, C, dx, [], rfl, sG _ _ hH, TL.cl, TL.nF, by show 0 < 1000; decide, ?_⟩
      refine ⟨_, _, rfl, _, rfl, p, C, dx, _, rfl, upd_same, TL.cl, TL.nB, by show 1 < 1000; decide, ?_⟩
      refine ⟨_, _, rfl, _, rfl, p, C, dx, _, rfl, upd_same, TL.cl, TL.nE, by show 2 < 1000; decide, ?_⟩
      refine ⟨_, _, rfl, _, rfl, p, C, dx, _, rfl, upd_same, TL.cl, TL.nX, by show 3 < 1000; decide, ?_⟩
      refine ⟨_, _, rfl, _, rfl, p, C, dx, _, rfl, upd_same, TL.cl, TL.nH, by show 4 < 1000; decide, ?_⟩
      refine ⟨rfl, _, rfl, _, rfl, p, C, dx, _, rfl, upd_same, TL.cl, TL.nT, by show 5 < 1000; decide, ?_⟩
      refine k1 y hd hp e _ (fun b o e n => by rw [upd_ne n, upd_ne n, upd_ne n, upd_ne n, upd_ne n, upd_ne n]; exact sG b o e) ?_
      rw [upd_same]
      rfl
    · exact .inr ⟨hns, fun d H' hE => k2 d H' hE⟩
/-! equal layouts -/
abbrev sTN : Stmt := top 20
theorem scTN : FnScope ["layout"] ["layout"] (defScope sTN) := ⟨rfl, rfl, rfl, by decide +kernel, rfl, by decide +kernel, by decide +kernel⟩
def spTN (C : Addr) : Sp := fun vs H Q _ => ∃ (a : Addr) (y : Ly) (t : List Nat), vs = [.ref a] ∧ LyT C H a y t ∧ ∀ r G, Same H G → G r = some (.tup (five y)) → Q (.ref r) G
theorem ok_TN (D : DefAt K mg "told_numbers" sTN) (TL : TxtL K mg C) : Cl P w K mg base 1 "told_numbers" (spTN C) := by
  refine cl_of D scTN (fun vs H Q E h => ?_) (fun _ _ _ _ _ _ us hl => match us, hl with | [_], _ => rfl) (fun f cdv A1 outer s H vs Q E hr h => ?_)
  · obtain ⟨a, y, t, rfl, _⟩ := h
    rfl
  · obtain ⟨a, y, t, rfl, ⟨dx, ha⟩, k⟩ := h
    refine ⟨_, pss_one (ps_ret (pe_tup (pa_cons (pe_fld (pv 0) rfl) (pa_cons (pe_fld (pv 0) rfl) (pa_cons (pe_fld (pv 0) rfl) (pa_cons (pe_fld (pv 0) rfl) (pa_cons (pe_fld (pv 0) rfl) pa_nil))))))), ?_⟩
    refine ⟨_, rfl, a, C, dx, _, _, rfl, ha, TL.cl, TL.nF, rfl, _, rfl, a, C, dx, _, _, rfl, ha, TL.cl, TL.nB, rfl, _, rfl, a, C, dx, _, _, rfl, ha, TL.cl, TL.nE, rfl, _, rfl, a, C, dx, _, _, rfl, ha, TL.cl, TL.nX, rfl, _, rfl, a, C, dx, _, _, rfl, ha, TL.cl, TL.nH, rfl, ?_⟩
    exact ⟨by show 5 ≤ sizeLine; decide, fun p hp => k p _ (sNew hp) upd_same⟩
end
end Wq
set_option Elab.async false
set_option linter.all false
set_option maxRecDepth 100000
set_option maxHeartbeats 4000000
set_option exponentiation.threshold 5000
namespace Wq
open PySem PySem.Spec PyProof.Rows L2
section
variable {prog : Program} {w : World} {A : Around} {E : Value → Shared → Prop} {s : Shared} {K : PySem.W.Frag} {x C f : Addr} {ox : Obj} {od : Option Obj} {b tb : Value}
open PySem.W in
theorem ne_own {Q : Value → Shared → Prop} (hu : A.units < cLine) (hu1 : A.in1.units < cLine) (X : K.In s.heap) (I : InstAt s.heap x ox C od) (hb : Looks (model prog w) s.heap (typeOf b) tb) (hn : notFirst K C tb = true)
    (hne : findIn K (.ref C) "__ne__" = some (some (.builtin "object.__ne__"))) (hm : mroIn K C (.type "object") = some true) (hs : findIn K (.ref C) "__eq__" = some (some (.ref f))) (hf : isFn K (.ref f) = true)
    (h : wpAny (model prog w) A.in1 (call (.ref f) [.ref x, b]) (fun v s' => ∃ r, v = .bool r ∧ Q (.bool (!r)) s') E s) : wpAny (model prog w) A (richCompare .NotEq (.ref x) b) Q E s := by
  have one : wpAny (model prog w) A (tryCompare (.ref x) "__ne__" b) (fun r s' => ∃ v, r = some v ∧ Q v s') E s := by
    have cl : wpAny (model prog w) A (call (.builtin "object.__ne__") [.ref x, b]) (fun v s' => v ≠ .notImplemented ∧ Q v s') E s := by
      refine wpAny_call (codeAny_call_builtin PySem.F.slot_object_ne.plain PySem.F.entry_object_ne (check_slot (i := "object.__ne__") (owner := "object") (n := "__ne__") (by decide +kernel) (by decide +kernel) (I.type.andThen (looks_mroIn X hm)) (PySem.F.args_object_ne_2 _ _) ?_))
      unfold Builtin.«object.__ne__»
      refine wpAny_bind (m := slotArgs "__ne__" 1 _) (wpAny_pure ?_)
      refine wpAny_bind (m := cRoomFor _ _) (wpAny_cRoomFor hu1 ?_)
      refine wpAny_bind (m := callSpecialIfBound? (.ref x) (Str.ofString "__eq__") _) (ifBound_K X I hs hf (wpAny_mono h (fun v s' hq => ?_) fun _ _ y => y))
      obtain ⟨r, rfl, q⟩ := hq
      refine wpAny_bind (wpAny_truthy_bool ?_)
      exact wpAny_pure ⟨(fun z => by cases z), q⟩
    unfold tryCompare
    simp only [callSpecialIfBound?, bindSpecialIfBound?]
    refine wpAny_bind (wpAny_holding (wpAny_bind (wpAny_bind (wpAny_bind (I.type.here ((looks_findIn X hne).here ?_))))))
    refine wpAny_bind (wpAny_askSetting (wpAny_ite ?_))
    have fin : ∀ {Q' : Option Value → Shared → Prop}, (∀ v s', v ≠ .notImplemented → Q v s' → Q' (some v) s') → wpAny (model prog w) A (call (.builtin "object.__ne__") ([.ref x] ++ [b]) >>= fun v => pure (some v)) Q' E s := fun hq => wpAny_bind (wpAny_mono cl (fun v s' z => wpAny_pure (hq v s' z.1 z.2)) fun _ _ z => z)
    have out : ∀ v s', v ≠ .notImplemented → Q v s' → wpAny (model prog w) A (match some v with | some .notImplemented | none => pure none | some v => pure (some v)) (fun r s' => ∃ v, r = some v ∧ Q v s') E s' := by
      intro v s' hv hq
      cases v <;> first | exact absurd rfl hv | exact wpAny_pure ⟨_, rfl, hq⟩
    split
    · exact wpAny_bind ((Looks.of_pure (PySem.F.slot_object_ne.bind (.ref x))).here (wpAny_pure (fin out)))
    · exact wpAny_tryCatch (wpAny_bind ((Looks.of_pure (PySem.F.slot_object_ne.bind (.ref x))).here (wpAny_pure (fin out))))
  unfold richCompare
  simp only [oneThing_ref]
  refine wpAny_holding (wpAny_bind (wpAny_cRoomFor hu ?_))
  refine wpAny_bind (I.type.here (wpAny_bind (hb.here ?_)))
  split
  · rename_i q
    have e : subIn K tb (.ref C) = some false := by
      rcases Bool.or_eq_true_iff.mp hn with e | e
      · rw [beq_iff_eq.mp e] at q; simp at q
      · exact beq_iff_eq.mp e
    refine wpAny_bind ((looks_subIn X e).here ?_)
    simp only [Bool.false_eq_true, if_false]
    refine wpAny_bind (wpAny_mono one (fun r s' z => ?_) fun _ _ e => e)
    obtain ⟨v, rfl, hq⟩ := z
    exact wpAny_pure hq
  · refine wpAny_bind (wpAny_pure ?_)
    simp only [Bool.false_eq_true, if_false]
    refine wpAny_bind (wpAny_mono one (fun r s' z => ?_) fun _ _ e => e)
    obtain ⟨v, rfl, hq⟩ := z
    exact wpAny_pure hq
end
/-- what an own == meets -/
def Oth (C : Addr) (H : Hp) (y : V) : Prop := (∃ b dy gs, y = .ref b ∧ H b = some (.ins C dy gs)) ∨ (∃ i, y = .int i) ∨ (∃ b, y = .bl b) ∨ (∃ s, y = .str s)
structure EqC (K : PySem.W.Frag) (C f : Addr) : Prop where
  hs : PySem.W.findIn K (.ref C) "__eq__" = some (some (.ref f))
  hf : PySem.W.isFn K (.ref f) = true
  ni : PySem.W.subIn K (.type "int") (.ref C) = some false
  nb : PySem.W.subIn K (.type "bool") (.ref C) = some false
  ns : PySem.W.subIn K (.type "str") (.ref C) = some false
  ne : PySem.W.findIn K (.ref C) "__ne__" = some (some (.builtin "object.__ne__"))
  hm : PySem.W.mroIn K C (.type "object") = some true
theorem oth_type {X : Cx} {C f : Addr} {pins : List (Addr × Obj)} {σ : L2.St} {H : Hp} {s : Shared} {y : V} {u : Value} (B : EqC X.K C f) (I : Inv X pins σ H s) (h : Oth C H y) (ry : RelV y u) :
    ∃ tb, PySem.W.Looks (model X.prog X.w) s.heap (typeOf u) tb ∧ PySem.W.notFirst X.K C tb = true := by
  rcases h with ⟨b, dy, gs, rfl, hb⟩ | ⟨i, rfl⟩ | ⟨b, rfl⟩ | ⟨z, rfl⟩
  · obtain rfl : u = Value.ref b := ry
    obtain ⟨mB, J2, _⟩ := ins_get I.hok hb
    obtain ⟨od2, J2, _⟩ := J2.look
    exact ⟨_, J2.type, by simp [PySem.W.notFirst]⟩
  · obtain ⟨t, rfl⟩ := ry
    exact ⟨_, PySem.W.Looks.of_pure rfl, by simp [PySem.W.notFirst, B.ni]⟩
  · obtain rfl : u = Value.bool b := ry
    exact ⟨_, PySem.W.Looks.of_pure rfl, by simp [PySem.W.notFirst, B.nb]⟩
  · obtain ⟨t, rfl⟩ := ry
    exact ⟨_, PySem.W.Looks.of_pure rfl, by simp [PySem.W.notFirst, B.ns]⟩
theorem not_ni {z : V} {q : Value} (rz : RelV z q) : q ≠ .notImplemented := by
  intro e
  subst e
  cases z <;> first | (obtain ⟨t, e⟩ := rz; cases e; done) | (cases rz; done)
/-- a function run below the running body -/
theorem run_sub {X : Cx} {CX : CXT} {k : Nat} {f : Addr} {fd : FuncData} {ps : List Str} {sp : Sp} {E : XK} {A : Around} {pins : List (Addr × Obj)} {σ : L2.St} {H : Hp} {s : Shared} {Q : VK} {us : List Value} {vs : List V} (F : FnOk X.prog X.w X.K X.mg X.base CX k f fd ps sp) (sb : Sub X k A) (hb : Binds X.K fd ps [])
    (hx : Passes CX X E) (I : Inv X pins σ H s) (r : Vals vs us) (h : sp vs H Q E) : wpAny (model X.prog X.w) A (call (.ref f) us) (EP X pins σ Q) X.xe s := by
  have hl : us.length = ps.length := by rw [← r.length]; exact F.len _ _ _ _ h
  have b := hb s us I.kIn (by rw [List.append_nil]; exact hl)
  rw [List.append_nil] at b
  have e0 : Env0 X.prog X.w X.K X.mg X.base A X.stack s H := by
    have e := I.env0
    exact ⟨by rw [sb.fr]; exact e.frames, e.mod, e.bs, e.bsz, e.funs, e.frf, e.hok, e.bare⟩
  refine wpAny_call (codeAny_mono (F.run A X.stack s H ⟨us, []⟩ us vs Q E sb.room e0 b r h) fun r s' hq => ?_)
  cases r with
  | error e => exact hx pins σ H s e s' I hq
  | ok fl =>
    cases fl with
    | ret u => exact I.after hq
    | next => exact False.elim hq
    | brk => exact False.elim hq
    | cont => exact False.elim hq
def rEqO (C : Addr) (sp : Sp) (E : XK) : R2 := fun x y H Q => ∃ a dx fs, x = .ref a ∧ H a = some (.ins C dx fs) ∧ Oth C H y ∧ sp [x, y] H Q E
def rNeO (C : Addr) (sp : Sp) (E : XK) : R2 := fun x y H Q => ∃ a dx fs, x = .ref a ∧ H a = some (.ins C dx fs) ∧ Oth C H y ∧ sp [x, y] H (fun v H' => ∃ r, v = .bl r ∧ Q (.bl (!r)) H') E
section
variable {X : Cx} {CX : CXT} {k : Nat} {f C : Addr} {fd : FuncData} {ps : List Str} {sp : Sp} {E : XK}
theorem op_eqO (B : EqC X.K C f) (F : FnOk X.prog X.w X.K X.mg X.base CX k f fd ps sp) (hr : Room k X.A) (hb : Binds X.K fd ps []) (hx : Passes CX X E) : OpR X (compareOp .Eq) (rEqO C sp E) := by
  intro pins s σ H x y v u Q I rx ry h
  obtain ⟨a, dx, fs, rfl, ha, hy, hsp⟩ := h
  obtain rfl : v = Value.ref a := rx
  obtain ⟨mA, J, _⟩ := ins_get I.hok ha
  obtain ⟨od, J, _⟩ := J.look
  obtain ⟨tb, ht, hn⟩ := oth_type B I hy ry
  obtain ⟨m, hF⟩ := I.fr
  show wpAny _ _ (richCompare .Eq _ _) _ _ _
  refine PySem.W.cmp_K (op := .Eq) (tb := tb) hr.units0 hF I.ok.mod.kin J ht hn B.hs B.hf ?_
  refine wpAny_mono (run_fn (us := [.ref a, u]) (vs := [.ref a, y]) F hr hb .nil hx I (.cons rfl (.cons ry .nil)) hsp) (fun v s' z => ?_) fun _ _ e => e
  obtain ⟨z, H1, I1, rz, q⟩ := z
  have nn := not_ni rz
  unfold PySem.W.CmpBack
  split
  · exact nn rfl
  · exact ⟨z, H1, I1, rz, q⟩
theorem op_neO (B : EqC X.K C f) (F : FnOk X.prog X.w X.K X.mg X.base CX k f fd ps sp) (hr : Room (k + 1) X.A) (hb : Binds X.K fd ps []) (hx : Passes CX X E) : OpR X (compareOp .NotEq) (rNeO C sp E) := by
  intro pins s σ H x y v u Q I rx ry h
  obtain ⟨a, dx, fs, rfl, ha, hy, hsp⟩ := h
  obtain rfl : v = Value.ref a := rx
  obtain ⟨mA, J, _⟩ := ins_get I.hok ha
  obtain ⟨od, J, _⟩ := J.look
  obtain ⟨tb, ht, hn⟩ := oth_type B I hy ry
  show wpAny _ _ (richCompare .NotEq _ _) _ _ _
  refine ne_own hr.units0 hr.in1.units0 I.kIn J ht hn B.ne B.hm B.hs B.hf ?_
  refine wpAny_mono (run_sub (A := X.A.in1) (us := [.ref a, u]) (vs := [.ref a, y]) F ⟨hr.in1, rfl⟩ hb hx I (.cons rfl (.cons ry .nil)) hsp) (fun v s' z => ?_) fun _ _ e => e
  obtain ⟨z, H1, I1, rz, r, rfl, q⟩ := z
  obtain rfl : v = Value.bool r := rz
  exact ⟨r, rfl, .bl (!r), H1, I1, rfl, q⟩
end
end Wq
set_option Elab.async false
set_option linter.all false
set_option maxRecDepth 100000
set_option maxHeartbeats 4000000
namespace Wq
open PySem PySem.Spec PyProof.Rows L2
open SX (S S_len S_cat S_beq_eq)
/-- the five numbers as data -/
def f5 (y : Ly) : List PyData := [.bool y.fr, .int y.B, .int y.E, .int y.X, .int y.H]
def eqL (y z : Ly) : Bool := PyData.eqvAll (f5 y) (f5 z)
theorem dp5 {K : PySem.W.Frag} {H : Hp} (y : Ly) : DpAll K H (five y) (f5 y) := .cons (.bl _) (.cons (.int _) (.cons (.int _) (.cons (.int _) (.cons (.int _) .nil))))
theorem shp5 (y : Ly) : SeqAt.shaped (.tuple (f5 y)) = true := by
  show (((PyData.bool y.fr).canLay0 && ((PyData.int y.B).canLay0 && ((PyData.int y.E).canLay0 && ((PyData.int y.X).canLay0 && ((PyData.int y.H).canLay0 && true))))) && decide (PyData.depthAll (f5 y) + 1 ≤ 64)) = true
  rfl
theorem shp5L (y : Ly) : SeqAt.shaped (.list (f5 y)) = true := by
  show (((PyData.bool y.fr).canLay0 && ((PyData.int y.B).canLay0 && ((PyData.int y.E).canLay0 && ((PyData.int y.X).canLay0 && ((PyData.int y.H).canLay0 && true))))) && decide (PyData.depthAll (f5 y) + 1 ≤ 64)) = true
  rfl
theorem eqL_t (y z : Ly) : PyData.eqv (.tuple (f5 y)) (.tuple (f5 z)) = eqL y z := by rw [PyData.eqv]; rfl
theorem eqL_l (y z : Ly) : PyData.eqv (.list (f5 y)) (.list (f5 z)) = eqL y z := by rw [PyData.eqv]; rfl
theorem eqL_rf (y : Ly) : eqL y y = true := by
  rw [← eqL_t]
  exact PySem.W.eqv_refl_alike _ (by rfl)
structure TxtQ (K : PySem.W.Frag) (C : Addr) : Prop where
  ha : PySem.W.findIn K (.ref C) "__class__" = some (some (.builtin "object.__class__"))
  hn : PySem.W.specialIn K (.builtin "object.__class__") "__get__" = some (some (.builtin "getset_descriptor.__get__"))
  htk : PySem.W.takesIn K (.builtin "object.__class__") = some true
  hm : PySem.W.mroIn K C (.type "object") = some true
  kT : PySem.W.kitOne K (.type "str") (.ref C) = some false
theorem ly_ty {K : PySem.W.Frag} {mg : Str → Option Value} {C : Addr} (TL : TxtL K mg C) (TQ : TxtQ K C) {H : Hp} {p : Addr} {y : Ly} {t : List Nat} (h : LyT C H p y t) : TyX K H (.ref p) (.ref C) := by
  obtain ⟨dx, e⟩ := h
  exact .base (.ins e TL.cl TQ.ha TQ.hn TQ.htk TQ.hm)
theorem kit_self {K : PySem.W.Frag} {C : Addr} : PySem.W.kitOne K (.ref C) (.ref C) = some true := by
  unfold PySem.W.kitOne
  simp
abbrev sEQ : Stmt := inClass (top 19) 1
theorem scEQ : FnScope ["self", "other"] ["self", "other"] (defScope sEQ) := ⟨rfl, rfl, rfl, by decide +kernel, rfl, by decide +kernel, by decide +kernel⟩
def spEQ (C : Addr) : Sp := fun vs H Q _ => ∃ (a : Addr) (y : Ly) (t : List Nat) (v : V), vs = [.ref a, v] ∧ LyT C H a y t ∧
  ((∃ (b : Addr) (z : Ly) (u : List Nat), v = .ref b ∧ LyT C H b z u ∧ ∀ G, Same H G → Q (.bl (eqL y z)) G) ∨ (∃ s, v = .str s ∧ Q (.bl false) H))
section
variable {P : Program} {w : World} {K : PySem.W.Frag} {mg : Str → Option Value} {base : Heap} {C CT : Addr}
theorem ok_EQ {f : Addr} {fd : FuncData} (F : Fun K "__eq__" "Layout.__eq__" sEQ f fd) (TL : TxtL K mg C) (TQ : TxtQ K C) (CN : Cl P w K mg base 1 "told_numbers" (spTN C)) : FnOk P w K mg base CX0 2 f fd ["self", "other"] (spEQ C) := by
  refine F.ok scEQ (fun vs H Q E h => ?_) (fun cdv A outer s H vs Q E hr h => ?_)
  · obtain ⟨a, y, t, v, rfl, _⟩ := h
    rfl
  · obtain ⟨a, y, t, v, rfl, ha, h⟩ := h
    refine ⟨_, pss_one (ps_ret (pe_and (pe_callB call_isi (by rfl) (by exact TL.isi) (by decide +kernel) (pa_cons (pv 1) (pa_cons (pe_glob rfl (by exact TL.gC) (v := .ref C) rfl) pa_nil))) (pe_one (pe_cmpR (op_eqD (hu64 hr)) (pe_cl CN hr (by decide) rfl (pa_cons (pv 0) pa_nil)) (pe_cl CN hr (by decide) rfl (pa_cons (pv 1) pa_nil)) (nomark _))))), ?_⟩
    rcases h with ⟨b, z, u, rfl, hb, k⟩ | ⟨s, rfl, k⟩
    · refine ⟨_, rfl, _, _, _, _, _, rfl, .own C, ly_ty TL TQ hb, kit_self, true, rfl, ?_⟩
      refine (if_pos rfl).mpr ?_
      refine ⟨_, rfl, a, y, t, rfl, ha, fun r G s1 hr1 => ⟨_, rfl, b, z, u, rfl, hb.same s1, fun r2 G2 s2 hr2 => ?_⟩⟩
      refine ⟨.tuple (f5 y), .tuple (f5 z), .tup (.inl (.inl (s2 _ _ hr1))) (dp5 y), .tup (.inl (.inl hr2)) (dp5 z), shp5 y, shp5 z, ?_⟩
      rw [eqL_t]
      exact k G2 (s1.trans s2)
    · refine ⟨_, rfl, _, _, _, _, _, rfl, .own C, .base (.str s), TQ.kT, false, rfl, ?_⟩
      exact (if_neg (by decide)).mpr k
abbrev sPL : Stmt := top 21
theorem scPL : FnScope [] [] (defScope sPL) := ⟨rfl, rfl, rfl, by decide +kernel, rfl, by decide +kernel, by decide +kernel⟩
end
end Wq
set_option Elab.async false
set_option linter.all false
set_option maxRecDepth 100000
set_option maxHeartbeats 4000000
namespace Wq
open PySem PySem.Spec PyProof.Rows L2
open SX (S S_len S_cat S_beq_eq)
theorem log_ok {n : Int} (h0 : 0 < n) (h : n < 536870912) : n.natAbs.log2 < 9000 := by
  have h2 : n.natAbs.log2 < 30 := PySem.Flt.log2_lt_of (by decide) (by omega)
  omega
/-! the pen moves, all else stays -/
structure Pn (p c : Addr) (m : Nat) (H G : Hp) : Prop where
  sp : SameP p H G
  pen : PenAt G p c m
  old : ∃ m0, PenAt H p c m0
section
variable {p c q : Addr} {m m' : Nat} {H G G' : Hp} {o : HO} {xs : List V}
theorem Pn.refl (h : PenAt H p c m) : Pn p c m H H := ⟨.refl, h, _, h⟩
theorem Pn.draw (h : Pn p c m H G) (hp : PenAt (upd G p o) p c m') : Pn p c m' H (upd G p o) := ⟨h.sp.trans .upd, hp, h.old⟩
theorem Pn.neP (h : Pn p c m H G) (hq : H q = none) : p ≠ q ∧ c ≠ q := by
  obtain ⟨m0, h0⟩ := h.old
  obtain ⟨kvs, hk⟩ := h0.dict
  obtain ⟨ys, hy⟩ := h0.cells
  exact ⟨ne_of_none hk hq, ne_of_none hy hq⟩
theorem Pn.put (h : Pn p c m H G) (hq : H q = none) : Pn p c m H (upd G q o) := by
  have hn := h.neP hq
  refine ⟨fun b u e n => ?_, h.pen.put hn.1 hn.2, h.old⟩
  rw [upd_ne (ne_of_none e hq)]
  exact h.sp b u e n
theorem Pn.free (h : Pn p c m H G) (hq : G q = none) : H q = none := by
  obtain ⟨m0, h0⟩ := h.old
  obtain ⟨kvs, hk⟩ := h0.dict
  cases e : H q with
  | none => rfl
  | some u =>
    by_cases n : q = p
    · subst n
      obtain ⟨kvs', hk'⟩ := h.pen.dict
      rw [hq] at hk'
      cases hk'
    · have := h.sp q u e n
      rw [hq] at this
      cases this
theorem Pn.new (h : Pn p c m H G) (hq : G q = none) : Pn p c m H (upd G q o) := h.put (h.free hq)
theorem Pn.mono (h : Pn p c m H G) (hm : m ≤ m') : Pn p c m' H G := ⟨h.sp, h.pen.mono hm, h.old⟩
theorem Pn.trans (h : Pn p c m H G) (h' : Pn p c m' G G') : Pn p c m' H G' := ⟨h.sp.trans h'.sp, h'.pen, h.old⟩
theorem Pn.same (h : Pn p c m H G) (s : Same G G') : Pn p c m H G' := ⟨h.sp.trans (.of s), h.pen.same s, h.old⟩
theorem Pn.lst (h : Pn p c m H G) (hq : H q = some (.lst xs)) : G q = some (.lst xs) := by
  obtain ⟨m0, h0⟩ := h.old
  obtain ⟨kvs, hk⟩ := h0.dict
  exact h.sp q _ hq (ne_of hq hk (by intro z; cases z))
end
theorem pick_int {ns : List Int} {i : Nat} {v : V} (h : (ns.map V.int)[i]? = some v) : ∃ z ∈ ns, v = .int z := by
  rw [List.getElem?_map] at h
  cases e : ns[i]? with
  | none => rw [e] at h; cases h
  | some z =>
    rw [e] at h
    exact ⟨z, List.mem_of_getElem? e, (Option.some.inj h).symm⟩
abbrev sLP : Stmt := top 28
abbrev NLP : List Str := ["_law_pen_here", "_law_parts_here"]
theorem scLP : FnScope NLP ["_law_pen_here"] (defScope sLP) := ⟨rfl, rfl, rfl, by decide +kernel, rfl, by decide +kernel, by decide +kernel⟩
def spLP : Sp := fun vs H Q _ => ∃ (p c : Addr) (m : Nat), vs = [.ref p] ∧ PenAt H p c m ∧ m < 1000000 ∧
  ∀ (y : Ly) (hd : Int) (q : Addr) (G : Hp), Pn p c (m + 10) H G → H q = none → G q = some (.lst (paV y hd)) → PaX y hd → (0 ≤ hd ∨ hd = -1) → Q (.ref q) G
section
variable {P : Program} {w : World} {K : PySem.W.Frag} {mg : Str → Option Value} {base : Heap} {C : Addr}
theorem ok_LP (D : DefAt K mg "_law_parts" sLP) (CD : Cl P w K mg base 1 "_law_draw" (spDraw K)) (CP : Cl P w K mg base 2 "_law_pick" (spPick K)) : Cl P w K mg base 3 "_law_parts" spLP := by
  refine cl_of D scLP (fun vs H Q E h => ?_) (fun _ _ _ _ _ _ us hl => match us, hl with | [_], _ => rfl) (fun f cdv A1 outer s H vs Q E hr h => ?_)
  · obtain ⟨p, c, m, rfl, _⟩ := h
    rfl
  · obtain ⟨p, c, m, rfl, hP, hm, k⟩ := h
    refine ⟨_, C8.pss_cut (ps_set (i := 1) scLP.nd rfl (Or.inl rfl) (pe_lst (pa_cons (pe_cmpR op_eq (pe_cl CD hr (by decide) rfl (pa_cons (pv 0) (pa_cons pe_int pa_nil))) pe_int (nomark _)) (pa_cons (pe_cl CP hr (by decide) rfl (pa_cons (pv 0) (pa_cons (pe_lst (pa_cons pe_int (pa_cons pe_int (pa_cons pe_int (pa_cons pe_int (pa_cons pe_int (pa_cons pe_int (pa_cons pe_int (pa_cons (pe_op op_add pe_int (pe_cl CD hr (by decide) rfl (pa_cons (pv 0) (pa_cons pe_int pa_nil)))) pa_nil))))))))) pa_nil))) (pa_cons pe_int (pa_cons pe_int (pa_cons (pe_un un_neg pe_int) pa_nil)))))))
(C8.pss_cut (ps_if (pt_cmpR op_eq (pe_cl CD hr (by decide) rfl (pa_cons (pv 0) (pa_cons pe_int pa_nil))) pe_int (nomark _))
(pss_cons (ps_asg (pe_op op_add pe_int (pe_cl CD hr (by decide) rfl (pa_cons (pv 0) (pa_cons pe_int pa_nil)))) (pg_sub (pv 1) pe_int set_list))
(pss_one (ps_asg (pe_cl CP hr (by decide) rfl (pa_cons (pv 0) (pa_cons (pe_lst (pa_cons pe_int (pa_cons pe_int (pa_cons pe_int (pa_cons pe_int (pa_cons pe_int (pa_cons (pe_op op_add pe_int (pe_cl CD hr (by decide) rfl (pa_cons (pv 0) (pa_cons pe_int pa_nil)))) pa_nil))))))) pa_nil))) (pg_sub (pv 1) pe_int set_list))))
pss_nil)
(C8.pss_cut (ps_if (pt_cmpR op_eq (pe_cl CD hr (by decide) rfl (pa_cons (pv 0) (pa_cons pe_int pa_nil))) pe_int (nomark _))
(pss_one (ps_asg (pe_cl CP hr (by decide) rfl (pa_cons (pv 0) (pa_cons (pe_lst (pa_cons pe_int (pa_cons pe_int (pa_cons pe_int (pa_cons pe_int (pa_cons pe_int (pa_cons (pe_cl CD hr (by decide) rfl (pa_cons (pv 0) (pa_cons pe_int pa_nil))) pa_nil))))))) pa_nil))) (pg_sub (pv 1) pe_int set_list)))
pss_nil)
(pss_one (ps_ret (pv 1))))), ?_⟩
    have hz9 : ∀ n, n ≤ 9 → n ≤ sizeLine := fun n h => by rw [sizeLine_eq]; omega
    refine ⟨fun σ G => ∃ (b : Bool) (B : Int) (q : Addr), σ = [some (.ref p), some (.ref q)] ∧ Pn p c (m + 3) H G ∧ H q = none ∧ G q = some (.lst [.bl b, .int B, .int 0, .int 0, .int (-1)]) ∧ 1 ≤ B ∧ B ≤ 16, ?_, ?_⟩
    · refine ⟨_, rfl, p, c, m, 2, rfl, hP, by omega, by decide, log_ok (by decide) (by decide), fun v0 o0 _ _ hP1 => ⟨rfl, _, rfl, _, rfl, p, c, m + 1, 16, rfl, hP1, by omega, by decide, log_ok (by decide) (by decide), fun v1 o1 a1 b1 hP2 => ⟨_, _, rfl, rfl, hz9 8 (by decide), fun l hl => ?_⟩⟩⟩
      have n2 : Pn p c (m + 2) H (upd (upd H p o0) p o1) := ((Pn.refl hP).draw hP1).draw hP2
      have n3 := n2.new (o := .lst [.int 1, .int 2, .int 3, .int 4, .int 5, .int 8, .int 16, .int (1 + v1)]) hl
      refine ⟨p, c, m + 2, .ref l, _, rfl, n3.pen, .lst (.inl (.inl upd_same)), by omega, Nat.succ_pos _, (by show 8 < 1073741824; decide), fun i v o hv hP3 => ?_⟩
      obtain ⟨z, hz, rfl⟩ := pick_int (ns := [1, 2, 3, 4, 5, 8, 16, 1 + v1]) hv
      have n4 := n3.draw hP3
      refine ⟨_, rfl, hz9 5 (by decide), fun q hq => ?_⟩
      refine ⟨_, z, q, rfl, n4.new hq, n4.free hq, upd_same, ?_, ?_⟩
      · simp at hz; omega
      · simp at hz; omega
    rintro σ G1 ⟨b, B, q, rfl, n1, hq0, hq1, hB1, hB2⟩
    have hnq : ∀ {m' : Nat} {G : Hp}, Pn p c m' H G → p ≠ q := fun h => (h.neP hq0).1
    refine ⟨fun σ G => ∃ (E X : Int), σ = [some (.ref p), some (.ref q)] ∧ Pn p c (m + 7) H G ∧ G q = some (.lst [.bl b, .int B, .int E, .int X, .int (-1)]) ∧ 0 ≤ E ∧ E ≤ 4 ∧ 0 ≤ X ∧ X ≤ 24 ∧ (0 < E → 1 ≤ X) ∧ (¬ 0 < E → X = 0), ?_, ?_⟩
    · refine ⟨_, rfl, p, c, m + 3, 2, rfl, n1.pen, by omega, by decide, log_ok (by decide) (by decide), fun v0 o0 _ _ hP1 => ⟨rfl, _, rfl, ?_⟩⟩
      have n2 := n1.draw hP1
      have hq2 : upd G1 p o0 q = some (.lst [.bl b, .int B, .int 0, .int 0, .int (-1)]) := by rw [upd_ne (hnq n1).symm]; exact hq1
      refine ite2 (fun _ => ?_) (fun _ => ?_)
      · refine ⟨_, rfl, p, c, m + 4, 4, rfl, n2.pen, by omega, by decide, log_ok (by decide) (by decide), fun v1 o1 a1 b1 hP2 => ⟨_, _, rfl, rfl, _, rfl, q, _, _, 2, rfl, rfl, by rw [upd_ne (hnq n1).symm]; exact hq2, by rfl, ?_⟩⟩
        have n3 := (n2.draw hP2).put (o := .lst ([.bl b, .int B, .int 0, .int 0, .int (-1)].set 2 (.int (1 + v1)))) hq0
        refine ⟨_, rfl, _, rfl, p, c, m + 5, 24, rfl, n3.pen, by omega, by decide, log_ok (by decide) (by decide), fun v2 o2 a2 b2 hP3 => ⟨_, _, rfl, rfl, hz9 6 (by decide), fun l hl => ?_⟩⟩
        have n4 := n3.draw hP3
        have n5 := n4.new (o := .lst [.int 1, .int 3, .int 6, .int 12, .int 24, .int (1 + v2)]) hl
        refine ⟨p, c, m + 6, .ref l, _, rfl, n5.pen, .lst (.inl (.inl upd_same)), by omega, Nat.succ_pos _, (by show 6 < 1073741824; decide), fun i v o hv hP4 => ?_⟩
        obtain ⟨z, hz, rfl⟩ := pick_int (ns := [1, 3, 6, 12, 24, 1 + v2]) hv
        have n6 := n5.draw hP4
        have hq4 : upd (upd (upd (upd (upd (upd G1 p o0) p o1) q (.lst ([.bl b, .int B, .int 0, .int 0, .int (-1)].set 2 (.int (1 + v1))))) p o2) l (.lst [.int 1, .int 3, .int 6, .int 12, .int 24, .int (1 + v2)])) p o q = some (.lst [.bl b, .int B, .int (1 + v1), .int 0, .int (-1)]) := by
          have e1 : upd (upd (upd (upd G1 p o0) p o1) q (.lst ([.bl b, .int B, .int 0, .int 0, .int (-1)].set 2 (.int (1 + v1))))) p o2 q = some (.lst [.bl b, .int B, .int (1 + v1), .int 0, .int (-1)]) := by
            rw [upd_ne (hnq n1).symm, upd_same]
            rfl
          rw [upd_ne (hnq n1).symm, upd_ne (ne_of_none e1 hl)]
          exact e1
        refine ⟨_, rfl, q, _, _, 3, rfl, rfl, hq4, by rfl, 1 + v1, z, rfl, n6.put hq0, upd_same, ?_⟩
        simp at hz
        omega
      · exact ⟨0, 0, rfl, n2.mono (by omega), hq2, by decide, by decide, by decide, by decide, fun z => absurd z (by decide), fun _ => rfl⟩
    rintro σ G2 ⟨E', X, rfl, n2, hq2, hE0, hE4, hX0, hX24, hEX, hX⟩
    refine ⟨fun σ G => ∃ hd : Int, σ = [some (.ref p), some (.ref q)] ∧ Pn p c (m + 10) H G ∧ G q = some (.lst [.bl b, .int B, .int E', .int X, .int hd]) ∧ -1 ≤ hd ∧ hd ≤ 64, ?_, ?_⟩
    · refine ⟨_, rfl, p, c, m + 7, 2, rfl, n2.pen, by omega, by decide, log_ok (by decide) (by decide), fun v0 o0 _ _ hP1 => ⟨rfl, _, rfl, ?_⟩⟩
      have n3 := n2.draw hP1
      have hq3 : upd G2 p o0 q = some (.lst [.bl b, .int B, .int E', .int X, .int (-1)]) := by rw [upd_ne (hnq n1).symm]; exact hq2
      refine ite2 (fun _ => ?_) (fun _ => ?_)
      · refine ⟨_, rfl, _, rfl, p, c, m + 8, 65, rfl, n3.pen, by omega, by decide, log_ok (by decide) (by decide), fun v2 o2 a2 b2 hP3 => ⟨hz9 6 (by decide), fun l hl => ?_⟩⟩
        have n4 := n3.draw hP3
        have n5 := n4.new (o := .lst [.int 0, .int 1, .int 3, .int 8, .int 64, .int v2]) hl
        refine ⟨p, c, m + 9, .ref l, _, rfl, n5.pen, .lst (.inl (.inl upd_same)), by omega, Nat.succ_pos _, (by show 6 < 1073741824; decide), fun i v o hv hP4 => ?_⟩
        obtain ⟨z, hz, rfl⟩ := pick_int (ns := [0, 1, 3, 8, 64, v2]) hv
        have n6 := n5.draw hP4
        have hq4 : upd (upd (upd (upd G2 p o0) p o2) l (.lst [.int 0, .int 1, .int 3, .int 8, .int 64, .int v2])) p o q = some (.lst [.bl b, .int B, .int E', .int X, .int (-1)]) := by
          have e1 : upd (upd G2 p o0) p o2 q = some (.lst [.bl b, .int B, .int E', .int X, .int (-1)]) := by
            rw [upd_ne (hnq n1).symm]
            exact hq3
          rw [upd_ne (hnq n1).symm, upd_ne (ne_of_none e1 hl)]
          exact e1
        refine ⟨_, rfl, q, _, _, 4, rfl, rfl, hq4, by rfl, z, rfl, n6.put hq0, upd_same, ?_⟩
        simp at hz
        omega
      · exact ⟨-1, rfl, n3.mono (by omega), hq3, by decide, by decide⟩
    rintro σ G3 ⟨hd, rfl, n3, hq3, h1, h64⟩
    refine ⟨_, rfl, ?_⟩
    refine k ⟨b, B.toNat, E'.toNat, X.toNat, if hd < 0 then 8 else hd.toNat⟩ hd q G3 n3 hq0 ?_ ⟨⟨⟨?_, ?_, ?_, ?_, ?_⟩, ?_, h64, ?_⟩, ?_⟩ (by omega)
    · rw [hq3]
      show some (HO.lst [.bl b, .int B, .int E', .int X, .int hd]) = some (HO.lst [.bl b, .int (B.toNat : Int), .int (E'.toNat : Int), .int (X.toNat : Int), .int hd])
      rw [Int.toNat_of_nonneg (by omega), Int.toNat_of_nonneg hE0, Int.toNat_of_nonneg hX0]
    · show 1 ≤ B.toNat
      omega
    · show B.toNat ≤ 16
      omega
    · show E'.toNat ≤ 4
      omega
    · show X.toNat ≤ 24
      omega
    · show (if hd < 0 then 8 else hd.toNat) ≤ 64
      split <;> omega
    · intro (z : 0 < E'.toNat)
      show 1 ≤ X.toNat
      have := hEX (by omega)
      omega
    · unfold HdOk
      show (((if hd < 0 then 8 else hd.toNat : Nat)) : Int) = if hd < 0 then 8 else hd
      split <;> omega
    · intro (z : ¬ 0 < E'.toNat)
      show X.toNat = 0
      have := hX (by omega)
      omega
end
end Wq
set_option Elab.async false
set_option linter.all false
set_option maxRecDepth 100000
set_option maxHeartbeats 4000000
namespace Wq
open PySem PySem.Spec PyProof.Rows L2
open SX (S S_len S_cat S_beq_eq)
theorem lit_b0 : V.str "blocks of " = V.str (S (cBlk false)) := congrArg V.str (show ("blocks of " : Str) = S (cBlk false) by decide +kernel)
theorem lit_b1 : V.str "blocks free to " = V.str (S (cBlk true)) := congrArg V.str (show ("blocks free to " : Str) = S (cBlk true) by decide +kernel)
theorem lit_e : V.str "\nexceptions " = V.str (S cExc) := congrArg V.str (show ("\nexceptions " : Str) = S cExc by decide +kernel)
theorem lit_o : V.str " of " = V.str (S cOf) := congrArg V.str (show (" of " : Str) = S cOf by decide +kernel)
theorem lit_t : V.str " bits" = V.str (S cBits) := congrArg V.str (show (" bits" : Str) = S cBits by decide +kernel)
theorem lit_h : V.str "\nhead " = V.str (S cHead) := congrArg V.str (show ("\nhead " : Str) = S cHead by decide +kernel)
theorem lit_at (b : Bool) : atI [V.str "blocks of ", V.str "blocks free to "] (if b = true then 1 else 0) = some (V.str (S (cBlk b))) := by
  cases b
  · show some (V.str "blocks of ") = _
    rw [lit_b0]
  · show some (V.str "blocks free to ") = _
    rw [lit_b1]
theorem num_V (n : Nat) : V.str (Str.ofString (toString ((n : Nat) : Int))) = V.str (S (TL.numL n)) := congrArg V.str (SX.num_S n)
theorem log_n {n : Nat} (h : n < 100) : ((n : Nat) : Int).natAbs.log2 < 1920 := by
  have h2 : ((n : Nat) : Int).natAbs.log2 < 30 := PySem.Flt.log2_lt_of (by decide) (by omega)
  omega
theorem catV (a b : List Nat) : V.str (S a ++ S b) = V.str (S (a ++ b)) := congrArg V.str (S_cat a b)
theorem lenV {a b : List Nat} (h : a.length + b.length ≤ 1000) : (S a).length + (S b).length ≤ sizeLine := by
  rw [S_len, S_len, sizeLine_eq]
  omega
abbrev sPT : Stmt := top 29
abbrev NPT : List Str := ["_law_parts_here", "_law_text"]
theorem scPT : FnScope NPT ["_law_parts_here"] (defScope sPT) := ⟨rfl, rfl, rfl, by decide +kernel, rfl, by decide +kernel, by decide +kernel⟩
def spPT (K : PySem.W.Frag) : Sp := fun vs H Q _ => ∃ (q : Addr) (y : Ly) (hd : Int), vs = [.ref q] ∧ SqL K H q (paV y hd) ∧ PaX y hd ∧ ∀ H', Same H H' → Q (.str (S (Tx y hd))) H'
section
variable {P : Program} {w : World} {K : PySem.W.Frag} {mg : Str → Option Value} {base : Heap} {C : Addr}
theorem ok_PT (D : DefAt K mg "_law_parts_text" sPT) (T : Txt K mg) (TX : TxtL K mg C) : Cl P w K mg base 1 "_law_parts_text" (spPT K) := by
  refine cl_of D scPT (fun vs H Q E h => ?_) (fun _ _ _ _ _ _ us hl => match us, hl with | [_], _ => rfl) (fun f cdv A1 outer s H vs Q E hr h => ?_)
  · obtain ⟨q, y, hd, rfl, _⟩ := h
    rfl
  · obtain ⟨q, y, hd, rfl, hq, hp, k⟩ := h
    refine ⟨_, C8.pss_cut (ps_set (i := 1) scPT.nd rfl (Or.inl rfl) (pe_op op_add_str (pe_ix ix_list (pe_lst (pa_cons pe_str (pa_cons pe_str pa_nil))) (pe_callTy call_int1 (by rfl) (by exact T.int) PyProof.Rows.boot_int (pa_cons (pe_ix ix_list (pv 0) pe_int (fun _ _ => rfl)) pa_nil)) (fun _ _ => rfl)) (pe_callTy call_str_int (by rfl) (by exact TX.str) (by decide +kernel) (pa_cons (pe_ix ix_list (pv 0) pe_int (fun _ _ => rfl)) pa_nil))))
(C8.pss_cut (ps_if (pt_cmpR op_gt (pe_ix ix_list (pv 0) pe_int (fun _ _ => rfl)) pe_int (nomark _))
(pss_one (ps_set (i := 1) scPT.nd rfl (Or.inl rfl) (pe_op op_add_str (pe_op op_add_str (pe_op op_add_str (pe_op op_add_str (pe_op op_add_str (pv 1) pe_str) (pe_callTy call_str_int (by rfl) (by exact TX.str) (by decide +kernel) (pa_cons (pe_ix ix_list (pv 0) pe_int (fun _ _ => rfl)) pa_nil))) pe_str) (pe_callTy call_str_int (by rfl) (by exact TX.str) (by decide +kernel) (pa_cons (pe_ix ix_list (pv 0) pe_int (fun _ _ => rfl)) pa_nil))) pe_str)))
pss_nil)
(C8.pss_cut (ps_if (pt_cmpR op_ge (pe_ix ix_list (pv 0) pe_int (fun _ _ => rfl)) pe_int (nomark _))
(pss_one (ps_set (i := 1) scPT.nd rfl (Or.inl rfl) (pe_op op_add_str (pe_op op_add_str (pe_op op_add_str (pv 1) pe_str) (pe_callTy call_str_int (by rfl) (by exact TX.str) (by decide +kernel) (pa_cons (pe_ix ix_list (pv 0) pe_int (fun _ _ => rfl)) pa_nil))) pe_str)))
pss_nil)
(pss_one (ps_ret (pv 1))))), ?_⟩
    have ok := hp.ok
    have bB : y.B < 100 := by have := ok.b16; omega
    have bE : y.E < 100 := by have := ok.e; omega
    have bX : y.X < 100 := by have := ok.x; omega
    have bH : hd.toNat < 100 := by have := hp.h64; omega
    have h1 := num_len2 bB
    have h2 := num_len2 bE
    have h3 := num_len2 bX
    have h4 := num_len2 bH
    have h5 : (cBlk y.fr).length ≤ 15 := by cases y.fr <;> decide
    have l1 : cExc.length = 12 := rfl
    have l2 : cOf.length = 4 := rfl
    have l3 : cBits.length = 5 := rfl
    have l4 : cHead.length = 6 := rfl
    have h6 : (tEx y.E y.X).length ≤ 30 := by
      unfold tEx
      split
      · simp only [List.length_append]
        omega
      · exact Nat.zero_le _
    refine ⟨fun σ G => σ = [some (.ref q), some (.str (S (cBlk y.fr ++ TL.numL y.B)))] ∧ Same H G, ?_, ?_⟩
    · refine ⟨by show 2 ≤ sizeLine; decide, fun l hl => ?_⟩
      have s1 := sNew (o := .lst [V.str "blocks of ", V.str "blocks free to "]) hl
      have hq1 := SqL_same hq s1
      refine ⟨_, rfl, q, _, 0, .bl y.fr, rfl, rfl, hq1, rfl, .inr ⟨y.fr, rfl, ?_⟩⟩
      refine ⟨l, _, _, _, rfl, rfl, .inl (.inl upd_same), lit_at y.fr, ?_⟩
      refine ⟨_, rfl, q, _, 1, nI y.B, rfl, rfl, hq1, rfl, _, rfl, log_n bB, ?_⟩
      exact ⟨S (cBlk y.fr), S (TL.numL y.B), rfl, num_V y.B, lenV (by omega), congrArg (fun z => [some (V.ref q), some z]) (catV _ _), s1⟩
    rintro σ G1 ⟨rfl, s1⟩
    refine ⟨fun σ G => σ = [some (.ref q), some (.str (S ((cBlk y.fr ++ TL.numL y.B) ++ tEx y.E y.X)))] ∧ Same H G, ?_, ?_⟩
    · have hq1 := SqL_same hq s1
      generalize hT : cBlk y.fr ++ TL.numL y.B = t1 at *
      have ht1 : t1.length ≤ 17 := by rw [← hT, List.length_append]; omega
      refine ⟨_, rfl, q, _, 2, nI y.E, rfl, rfl, hq1, rfl, _, _, rfl, rfl, _, rfl, ?_⟩
      unfold tEx
      by_cases hE : 0 < y.E
      · rw [if_pos hE]
        refine (if_pos (decide_eq_true (by show (0 : Int) < ((y.E : Nat) : Int); omega))).mpr ?_
        refine ⟨_, rfl, S t1, S cExc, rfl, lit_e, lenV (by omega), ?_⟩
        refine ⟨_, rfl, q, _, 2, nI y.E, rfl, rfl, hq1, rfl, _, rfl, log_n bE, S (t1 ++ cExc), S (TL.numL y.E), catV _ _, num_V y.E, lenV (by rw [List.length_append]; omega), ?_⟩
        refine ⟨S (t1 ++ cExc ++ TL.numL y.E), S cOf, catV _ _, lit_o, lenV (by simp only [List.length_append]; omega), ?_⟩
        refine ⟨_, rfl, q, _, 3, nI y.X, rfl, rfl, hq1, rfl, _, rfl, log_n bX, S (t1 ++ cExc ++ TL.numL y.E ++ cOf), S (TL.numL y.X), catV _ _, num_V y.X, lenV (by simp only [List.length_append]; omega), ?_⟩
        refine ⟨S (t1 ++ cExc ++ TL.numL y.E ++ cOf ++ TL.numL y.X), S cBits, catV _ _, lit_t, lenV (by simp only [List.length_append]; omega), ?_, s1⟩
        rw [catV]
        simp only [List.append_assoc]
        rfl
      · rw [if_neg hE]
        refine (if_neg (fun z => hE (by have z : (0 : Int) < ((y.E : Nat) : Int) := of_decide_eq_true z; omega))).mpr ?_
        exact ⟨by rw [List.append_nil], s1⟩
    rintro σ G2 ⟨rfl, s2⟩
    refine ⟨fun σ G => σ = [some (.ref q), some (.str (S (((cBlk y.fr ++ TL.numL y.B) ++ tEx y.E y.X) ++ tHd hd)))] ∧ Same H G, ?_, ?_⟩
    · have hq1 := SqL_same hq s2
      generalize hT : (cBlk y.fr ++ TL.numL y.B) ++ tEx y.E y.X = t1 at *
      have ht1 : t1.length ≤ 60 := by rw [← hT]; simp only [List.length_append]; omega
      refine ⟨_, rfl, q, _, 4, .int hd, rfl, rfl, hq1, rfl, _, _, rfl, rfl, _, rfl, ?_⟩
      unfold tHd
      by_cases h0 : 0 ≤ hd
      · rw [if_pos h0]
        refine (if_pos (decide_eq_true h0)).mpr ?_
        refine ⟨_, rfl, S t1, S cHead, rfl, lit_h, lenV (by omega), ?_⟩
        have ehd : hd = ((hd.toNat : Nat) : Int) := by omega
        refine ⟨_, rfl, q, _, 4, .int hd, rfl, rfl, hq1, rfl, _, rfl, by rw [ehd]; exact log_n bH, S (t1 ++ cHead), S (TL.numL hd.toNat), catV _ _, ?_, lenV (by rw [List.length_append]; omega), ?_⟩
        · have := num_V hd.toNat
          rw [← ehd] at this
          exact this
        refine ⟨S (t1 ++ cHead ++ TL.numL hd.toNat), S cBits, catV _ _, lit_t, lenV (by simp only [List.length_append]; omega), ?_, s2⟩
        rw [catV]
        simp only [List.append_assoc]
        rfl
      · rw [if_neg h0]
        refine (if_neg (fun z => h0 (of_decide_eq_true z))).mpr ?_
        exact ⟨by rw [List.append_nil], s2⟩
    rintro σ G3 ⟨rfl, s3⟩
    refine ⟨_, rfl, ?_⟩
    have e : ((cBlk y.fr ++ TL.numL y.B) ++ tEx y.E y.X) ++ tHd hd = Tx y hd := by
      unfold Tx
      simp only [List.append_assoc]
    rw [e]
    exact k G3 s3
end
end Wq
set_option Elab.async false
set_option linter.all false
set_option maxRecDepth 100000
set_option maxHeartbeats 4000000
namespace Wq
open PySem PySem.Spec PyProof.Rows L2
open SX (S S_len S_cat S_beq_eq)
def vS (l : List Nat) : V := .str (S l)
theorem lit_e1 : V.str "exceptions " = V.str (S cE1) := congrArg V.str (show ("exceptions " : Str) = S cE1 by decide +kernel)
theorem lit_h1 : V.str "head " = V.str (S cH1) := congrArg V.str (show ("head " : Str) = S cH1 by decide +kernel)
theorem num_I {n : Int} {k : Nat} (h : n = (k : Int)) : V.str (Str.ofString (toString n)) = V.str (S (TL.numL k)) := by
  rw [h]
  exact num_V k
theorem log_I {n : Int} (h0 : 0 ≤ n) (h : n < 100) : n.natAbs.log2 < 1920 := by
  have h2 : n.natAbs.log2 < 30 := PySem.Flt.log2_lt_of (by decide) (by omega)
  omega
def fA (fr : Bool) (k : Nat) : List Nat := cBlk fr ++ TL.numL (k + 1)
def fB (k : Nat) : List Nat := cE1 ++ (TL.numL (1 + k / 24) ++ (cOf ++ (TL.numL (1 + k % 24) ++ cBits)))
def fC (k : Nat) : List Nat := cH1 ++ (TL.numL k ++ cBits)
theorem fA_is (fr : Bool) : (List.range 16).map (fA fr) = tx (A0 fr) := by cases fr <;> decide +kernel
theorem fB_is : (List.range 96).map fB = mSnd := by decide +kernel
theorem fC_is : (List.range 65).map fC = mTrd := by decide +kernel
theorem rng_step (f : Nat → List Nat) (i : Nat) : ((List.range i).map f).map vS ++ [vS (f i)] = ((List.range (i + 1)).map f).map vS := by
  rw [List.range_succ, List.map_append, List.map_append]
  rfl
/-- the menus -/
structure MnAt (G : Hp) (m : Addr) : Prop where
  ex : ∃ m0 m1 m2 : Addr, G m = some (.lst [.ref m0, .ref m1, .ref m2]) ∧ G m0 = some (.lst (mFst.map vS)) ∧ G m1 = some (.lst (mSnd.map vS)) ∧ G m2 = some (.lst (mTrd.map vS))
theorem MnAt.same {G G' : Hp} {m : Addr} (h : MnAt G m) (s : Same G G') : MnAt G' m := by
  obtain ⟨m0, m1, m2, h1, h2, h3, h4⟩ := h.ex
  exact ⟨m0, m1, m2, s _ _ h1, s _ _ h2, s _ _ h3, s _ _ h4⟩
abbrev sMn : Stmt := top 31
abbrev NMn : List Str := ["_law_firsts", "_law_seconds", "_law_k"]
theorem scMn : FnScope NMn [] (defScope sMn) := ⟨rfl, rfl, rfl, by decide +kernel, rfl, by decide +kernel, by decide +kernel⟩
def spMn : Sp := fun vs H Q _ => vs = [] ∧ ∀ m G, Same H G → MnAt G m → Q (.ref m) G
section
variable {P : Program} {w : World} {K : PySem.W.Frag} {mg : Str → Option Value} {base : Heap} {C CT : Addr}
theorem ok_Mn (D : DefAt K mg "_law_menus" sMn) (T : Txt K mg) (TX : TxtL K mg C) : Cl P w K mg base 1 "_law_menus" spMn := by
  refine cl_of D scMn (fun vs H Q E h => ?_) (fun _ _ _ _ _ _ us hl => match us, hl with | [], _ => rfl) (fun f cdv A1 outer s H vs Q E hr h => ?_)
  · obtain ⟨rfl, _⟩ := h
    rfl
  · obtain ⟨rfl, k⟩ := h
    refine ⟨_, C8.pss_cut (ps_set (i := 0) scMn.nd rfl (Or.inl rfl) (pe_op op_cat (pe_lc (own := [("_law_k", 2)]) (g := gName 2) (tt := tYes) (by rfl) scMn.nd (pi_range1 rfl (by exact T.range) (pa_cons pe_int pa_nil)) (blkOk_by (own := [("_law_k", 2)]) (N := NMn) (sc := defScope sMn) (by decide +kernel)) (fun _ _ _ _ _ => (pg_name (i := 2) scMn.nd rfl (Or.inl rfl))) (fun _ _ _ _ _ => pts_nil) (fun _ _ _ _ _ => (pe_op op_add_str pe_str (pe_callTy call_str_int (by rfl) (by exact TX.str) (by decide +kernel) (pa_cons (pe_op op_add (pv 2) pe_int) pa_nil))))) (pe_lc (own := [("_law_k", 2)]) (g := gName 2) (tt := tYes) (by rfl) scMn.nd (pi_range1 rfl (by exact T.range) (pa_cons pe_int pa_nil)) (blkOk_by (own := [("_law_k", 2)]) (N := NMn) (sc := defScope sMn) (by decide +kernel)) (fun _ _ _ _ _ => (pg_name (i := 2) scMn.nd rfl (Or.inl rfl))) (fun _ _ _ _ _ => pts_nil) (fun _ _ _ _ _ => (pe_op op_add_str pe_str (pe_callTy call_str_int (by rfl) (by exact TX.str) (by decide +kernel) (pa_cons (pe_op op_add (pv 2) pe_int) pa_nil)))))))
(C8.pss_cut (ps_setLc (i := 1) (own := [("_law_k", 2)]) (g := gName 2) (tt := tYes) (by rfl) scMn.nd rfl rfl (sw_true rfl rfl rfl (by decide +kernel)) (pi_range1 rfl (by exact T.range) (pa_cons pe_int pa_nil)) (blkOk_by (own := [("_law_k", 2)]) (N := NMn) (sc := defScope sMn) (by decide +kernel)) (fun _ _ _ _ _ => (pg_name (i := 2) scMn.nd rfl (Or.inl rfl))) (fun _ _ _ _ _ => pts_nil) (fun _ _ _ _ _ => (pe_op op_add_str (pe_op op_add_str (pe_op op_add_str (pe_op op_add_str pe_str (pe_callTy call_str_int (by rfl) (by exact TX.str) (by decide +kernel) (pa_cons (pe_op op_add pe_int (pe_op op_fdiv (pv 2) pe_int)) pa_nil))) pe_str) (pe_callTy call_str_int (by rfl) (by exact TX.str) (by decide +kernel) (pa_cons (pe_op op_add pe_int (pe_op op_mod (pv 2) pe_int)) pa_nil))) pe_str)))
(pss_one (ps_ret (pe_lst (pa_cons (pv 0) (pa_cons (pv 1) (pa_cons (pe_lc (own := [("_law_k", 2)]) (g := gName 2) (tt := tYes) (by rfl) scMn.nd (pi_range1 rfl (by exact T.range) (pa_cons pe_int pa_nil)) (blkOk_by (own := [("_law_k", 2)]) (N := NMn) (sc := defScope sMn) (by decide +kernel)) (fun _ _ _ _ _ => (pg_name (i := 2) scMn.nd rfl (Or.inl rfl))) (fun _ _ _ _ _ => pts_nil) (fun _ _ _ _ _ => (pe_op op_add_str (pe_op op_add_str pe_str (pe_callTy call_str_int (by rfl) (by exact TX.str) (by decide +kernel) (pa_cons (pv 2) pa_nil))) pe_str))) pa_nil))))))), ?_⟩
    have l0 : (cBlk false).length = 10 := rfl
    have l1 : (cBlk true).length = 15 := rfl
    have l2 : cE1.length = 11 := rfl
    have l3 : cOf.length = 4 := rfl
    have l4 : cBits.length = 5 := rfl
    have l5 : cH1.length = 5 := rfl
    have hz : ∀ (f : Nat → List Nat) (i : Nat), i ≤ 200 → (((List.range i).map f).map vS).length < sizeLine := fun f i hi => by
      rw [List.length_map, List.length_map, List.length_range, sizeLine_eq]
      omega
    refine ⟨fun σ G => ∃ m0 : Addr, σ = [some (.ref m0), none, none] ∧ Same H G ∧ G m0 = some (.lst (mFst.map vS)), ?_, ?_⟩
    · refine ⟨16, rfl, by decide, by decide, fun D hD => ?_⟩
      refine lc_range (lo := 0) (n := 16) (fun i G => Same H G ∧ G D = some (.lst (((List.range i).map (fA false)).map vS))) ⟨sNew hD, upd_same⟩ ?_ ?_
      · rintro i G hi ⟨sm, hD2⟩
        refine ⟨rfl, ?_⟩
        simp only [tYes, if_true]
        refine ⟨_, rfl, _, _, rfl, rfl, _, rfl, log_I (by omega) (by omega), S (cBlk false), S (TL.numL (i + 1)), lit_b0, num_I (by omega), lenV (by have := num_len2 (show i + 1 < 100 by omega); omega), _, hD2, hz _ i (by omega), sPut sm hD, ?_⟩
        rw [upd_same, ← rng_step]
        exact congrArg (fun z => some (HO.lst (((List.range i).map (fA false)).map vS ++ [z]))) (catV _ _)
      rintro G ⟨sm, hD2⟩
      refine ⟨16, rfl, by decide, by decide, fun D' hD' => ?_⟩
      refine lc_range (lo := 0) (n := 16) (fun i G' => Same G G' ∧ G' D' = some (.lst (((List.range i).map (fA true)).map vS))) ⟨sNew hD', upd_same⟩ ?_ ?_
      · rintro i G' hi ⟨sm', hD2'⟩
        refine ⟨rfl, ?_⟩
        simp only [tYes, if_true]
        refine ⟨_, rfl, _, _, rfl, rfl, _, rfl, log_I (by omega) (by omega), S (cBlk true), S (TL.numL (i + 1)), lit_b1, num_I (by omega), lenV (by have := num_len2 (show i + 1 < 100 by omega); omega), _, hD2', hz _ i (by omega), sPut sm' hD', ?_⟩
        rw [upd_same, ← rng_step]
        exact congrArg (fun z => some (HO.lst (((List.range i).map (fA true)).map vS ++ [z]))) (catV _ _)
      rintro G' ⟨sm', hD2'⟩
      have hDG := sm' _ _ hD2
      have hDG : G' D = some (.lst ((tx (A0 false)).map vS)) := by rw [← fA_is]; exact hDG
      have hD2' : G' D' = some (.lst ((tx (A0 true)).map vS)) := by rw [← fA_is]; exact hD2'
      refine ⟨D, D', _, _, rfl, rfl, hDG, hD2', by rw [List.length_map, List.length_map, ← fA_is, ← fA_is, List.length_map, List.length_map, List.length_range, sizeLine_eq]; decide, fun p hp => ⟨p, rfl, sm.trans (sm'.trans (sNew hp)), ?_⟩⟩
      rw [upd_same, ← List.map_append]
      rfl
    rintro σ G1 ⟨m0, rfl, s1, h0⟩
    refine ⟨fun σ G => ∃ m1 : Addr, σ = [some (.ref m0), some (.ref m1), none] ∧ Same H G ∧ G m0 = some (.lst (mFst.map vS)) ∧ G m1 = some (.lst (mSnd.map vS)), ?_, ?_⟩
    · refine ⟨96, rfl, by decide, by decide, fun D hD => ?_⟩
      refine lc_range (lo := 0) (n := 96) (fun i G => Same G1 G ∧ G D = some (.lst (((List.range i).map fB).map vS))) ⟨sNew hD, upd_same⟩ ?_ ?_
      · rintro i G hi ⟨sm, hD2⟩
        refine ⟨rfl, ?_⟩
        have n1 := num_len2 (show 1 + i / 24 < 100 by omega)
        have n2 := num_len2 (show 1 + i % 24 < 100 by omega)
        simp only [tYes, if_true]
        refine ⟨_, rfl, _, _, rfl, rfl, ⟨by decide, by decide⟩, _, _, rfl, rfl, _, rfl, log_I (by omega) (by omega), S cE1, S (TL.numL (1 + i / 24)), lit_e1, num_I (by omega), lenV (by omega), ?_⟩
        refine ⟨S (cE1 ++ TL.numL (1 + i / 24)), S cOf, catV _ _, lit_o, lenV (by rw [List.length_append]; omega), ?_⟩
        refine ⟨_, rfl, _, _, rfl, rfl, (by show (0 : Int) < 24; decide), _, _, rfl, rfl, _, rfl, log_I (by omega) (by omega), S (cE1 ++ TL.numL (1 + i / 24) ++ cOf), S (TL.numL (1 + i % 24)), catV _ _, num_I (by omega), lenV (by simp only [List.length_append]; omega), ?_⟩
        refine ⟨S (cE1 ++ TL.numL (1 + i / 24) ++ cOf ++ TL.numL (1 + i % 24)), S cBits, catV _ _, lit_t, lenV (by simp only [List.length_append]; omega), _, hD2, hz _ i (by omega), sPut sm hD, ?_⟩
        rw [upd_same, ← rng_step]
        refine congrArg (fun z => some (HO.lst (((List.range i).map fB).map vS ++ [z]))) ((catV _ _).trans ?_)
        unfold vS fB
        simp only [List.append_assoc]
      rintro G ⟨sm, hD2⟩
      have hD2 : G D = some (.lst (mSnd.map vS)) := by rw [← fB_is]; exact hD2
      exact ⟨D, rfl, s1.trans sm, sm _ _ h0, hD2⟩
    rintro σ G2 ⟨m1, rfl, s2, h0, h1⟩
    refine ⟨_, rfl, _, rfl, 65, rfl, by decide, by decide, fun D hD => ?_⟩
    refine lc_range (lo := 0) (n := 65) (fun i G => Same G2 G ∧ G D = some (.lst (((List.range i).map fC).map vS))) ⟨sNew hD, upd_same⟩ ?_ ?_
    · rintro i G hi ⟨sm, hD2⟩
      refine ⟨rfl, ?_⟩
      have n1 := num_len2 (show i < 100 by omega)
      simp only [tYes, if_true]
      refine ⟨_, rfl, _, rfl, log_I (by omega) (by omega), S cH1, S (TL.numL i), lit_h1, num_I (by omega), lenV (by omega), ?_⟩
      refine ⟨S (cH1 ++ TL.numL i), S cBits, catV _ _, lit_t, lenV (by rw [List.length_append]; omega), _, hD2, hz _ i (by omega), sPut sm hD, ?_⟩
      rw [upd_same, ← rng_step]
      refine congrArg (fun z => some (HO.lst (((List.range i).map fC).map vS ++ [z]))) ((catV _ _).trans ?_)
      unfold vS fC
      simp only [List.append_assoc]
    rintro G ⟨sm, hD2⟩
    have hD2 : G D = some (.lst (mTrd.map vS)) := by rw [← fC_is]; exact hD2
    refine ⟨by show 3 ≤ sizeLine; decide, fun m hm => ?_⟩
    have sM := sNew (o := .lst [.ref m0, .ref m1, .ref D]) hm
    exact k m _ (s2.trans (sm.trans sM)) ⟨m0, m1, D, upd_same, sM _ _ (sm _ _ h0), sM _ _ (sm _ _ h1), sM _ _ hD2⟩
end
end Wq
set_option Elab.async false
set_option linter.all false
set_option maxRecDepth 100000
set_option maxHeartbeats 4000000
namespace Wq
open PySem PySem.Spec PyProof.Rows L2
open SX (S S_len S_cat S_beq_eq)
structure TxtM (mg : Str → Option Value) : Prop where
  en : mg "enumerate" = none
theorem lcp_ext : ∀ (a b : List Nat) (f x : Nat), f ≤ lcp a b → a[f]? = some x → b[f]? = some x → f + 1 ≤ lcp a b
  | [], b, f, x, _, h, _ => by simp at h
  | a :: as, [], f, x, _, _, h => by simp at h
  | a :: as, b :: bs, 0, x, _, h1, h2 => by
    have h1 : a = x := by simpa using h1
    have h2 : b = x := by simpa using h2
    rw [h1, h2, lcp_same]
    omega
  | a :: as, b :: bs, f + 1, x, h, h1, h2 => by
    by_cases e : a = b
    · subst e
      rw [lcp_same] at h ⊢
      have := lcp_ext as bs f x (by omega) (by simpa using h1) (by simpa using h2)
      omega
    · unfold lcp at h
      rw [if_neg e] at h
      omega
theorem lcp_end : ∀ (a b : List Nat) (f x y : Nat), f ≤ lcp a b → a[f]? = some x → b[f]? = some y → x ≠ y → lcp a b = f
  | [], b, f, x, y, _, h, _, _ => by simp at h
  | a :: as, [], f, x, y, _, _, h, _ => by simp at h
  | a :: as, b :: bs, 0, x, y, _, h1, h2, hn => by
    have h1 : a = x := by simpa using h1
    have h2 : b = y := by simpa using h2
    unfold lcp
    rw [if_neg (by rw [h1, h2]; exact hn)]
  | a :: as, b :: bs, f + 1, x, y, h, h1, h2, hn => by
    by_cases e : a = b
    · subst e
      rw [lcp_same] at h ⊢
      have := lcp_end as bs f x y (by omega) (by simpa using h1) (by simpa using h2) hn
      omega
    · unfold lcp at h
      rw [if_neg e] at h
      omega
theorem lcp_comm : ∀ a b : List Nat, lcp a b = lcp b a
  | [], [] => rfl
  | [], b :: bs => rfl
  | a :: as, [] => rfl
  | a :: as, b :: bs => by
    unfold lcp
    by_cases e : a = b
    · rw [if_pos e, if_pos e.symm, lcp_comm as bs]
    · rw [if_neg e, if_neg (fun z => e z.symm)]
theorem mx_step {l o : List Nat} {M : List (List Nat)} {k : Nat} (h : M[k]? = some o) : mx l (M.take (k + 1)) = max (mx l (M.take k)) (lcp o l) := by
  unfold mx
  rw [List.take_succ, h, List.foldl_append]
  rfl
abbrev sFt : Stmt := top 32
abbrev NFt : List Str := ["_law_line", "_law_menu", "_law_best", "_law_one", "_law_far"]
theorem scFt : FnScope NFt ["_law_line", "_law_menu"] (defScope sFt) := ⟨rfl, rfl, rfl, by decide +kernel, rfl, by decide +kernel, by decide +kernel⟩
def spFt (K : PySem.W.Frag) : Sp := fun vs H Q _ => ∃ (l : List Nat) (m : Addr) (M : List (List Nat)), vs = [.str (S l), .ref m] ∧ l.length ≤ 400 ∧ SqL K H m (M.map vS) ∧ (∀ o ∈ M, o.length ≤ 400) ∧ Q (nI (mx l M)) H
section
variable {P : Program} {w : World} {K : PySem.W.Frag} {mg : Str → Option Value} {base : Heap} {C CT : Addr}
theorem ok_Ft (D : DefAt K mg "_law_fit" sFt) (T : Txt K mg) (TX : TxtL K mg C) : Cl P w K mg base 1 "_law_fit" (spFt K) := by
  refine cl_of D scFt (fun vs H Q E h => ?_) (fun _ _ _ _ _ _ us hl => match us, hl with | [_, _], _ => rfl) (fun f cdv A1 outer s H vs Q E hr h => ?_)
  · obtain ⟨l, m, M, rfl, _⟩ := h
    rfl
  · obtain ⟨l, m, M, rfl, hll, hm, hM, k⟩ := h
    refine ⟨_, pss_cons (ps_set (i := 2) scFt.nd rfl (Or.inl rfl) pe_int)
(C8.pss_cut (ps_for PassesOwn.never rfl (pi_list (pv 1)) (pg_name (i := 3) scFt.nd rfl (Or.inl rfl))
(pss_cons (ps_set (i := 4) scFt.nd rfl (Or.inl rfl) pe_int)
(C8.pss_cut (ps_while PassesOwn.never (PW.pt (pw_and (pt_cmpR op_lt (pv 4) (pe_callB (call_min2 rfl) (by rfl) (by exact T.min) (by decide +kernel) (pa_cons (pe_callB call_len_str (by rfl) (by exact T.len) PySem.boot_len (pa_cons (pv 0) pa_nil)) (pa_cons (pe_callB call_len_str (by rfl) (by exact T.len) PySem.boot_len (pa_cons (pv 3) pa_nil)) pa_nil))) (nomark _)) (pw_and1 (pt_cmpR op_eq (pe_ix ix_str (pv 0) (pv 4) (fun _ _ => rfl)) (pe_ix ix_str (pv 3) (pv 4) (fun _ _ => rfl)) (nomark _)))))
(pss_one (ps_set (i := 4) scFt.nd rfl (Or.inl rfl) (pe_op op_add (pv 4) pe_int))))
(pss_one (ps_set (i := 2) scFt.nd rfl (Or.inl rfl) (pe_callB (call_max2 rfl) (by rfl) (by exact TX.max) (by decide +kernel) (pa_cons (pv 2) (pa_cons (pv 4) pa_nil))))))))
(pss_one (ps_ret (pv 2)))), ?_⟩
    have hSl : (S l).length = l.length := S_len l
    have hzl : (S l).length ≤ sizeLine := by rw [hSl, sizeLine_eq]; omega
    refine ⟨fun σ G => ∃ x3 x4 : Option V, σ = [some (.str (S l)), some (.ref m), some (nI (mx l M)), x3, x4] ∧ G = H, ?_, ?_⟩
    · refine ⟨_, rfl, m, rfl, ⟨_, hm⟩, for_list (K := K) (a := m) (xs := M.map vS) (fun kk σ G => ∃ x3 x4 : Option V, σ = [some (.str (S l)), some (.ref m), some (nI (mx l (M.take kk))), x3, x4] ∧ G = H)
        ⟨_, _, rfl, rfl⟩ (fun kk σ G _ ⟨_, _, _, e⟩ => by rw [e]; exact hm) ?_ ?_⟩
      · rintro kk z σ G hz ⟨x3, x4, rfl, rfl⟩
        rw [List.getElem?_map] at hz
        cases eo : M[kk]? with
        | none => rw [eo] at hz; cases hz
        | some o =>
        rw [eo] at hz
        have hz : vS o = z := Option.some.inj hz
        subst hz
        have hol := hM o (List.mem_of_getElem? eo)
        have hSo : (S o).length = o.length := S_len o
        have hzo : (S o).length ≤ sizeLine := by rw [hSo, sizeLine_eq]; omega
        have hle := lcp_le o l
        refine ⟨fun σ G' => σ = [some (.str (S l)), some (.ref m), some (nI (mx l (M.take kk))), some (vS o), some (nI (lcp o l))] ∧ G' = G, ?_, ?_⟩
        · refine ⟨fun z σ G' => ∃ f : Nat, σ = [some (.str (S l)), some (.ref m), some (nI (mx l (M.take kk))), some (vS o), some (nI f)] ∧ G' = G ∧ z = l.length - f ∧ f ≤ lcp o l, ⟨l.length, 0, rfl, rfl, rfl, Nat.zero_le _⟩, ?_⟩
          rintro z σ G' ⟨f, rfl, rfl, rfl, hf⟩
          have hmin : (if ((S o).length : Int) < ((S l).length : Int) then ((S o).length : Int) else ((S l).length : Int)) = ((min o.length l.length : Nat) : Int) := by
            rw [hSl, hSo]
            split <;> omega
          refine ⟨_, rfl, _, rfl, S l, rfl, hzl, _, rfl, S o, rfl, hzo, _, _, rfl, _, _, rfl, congrArg V.int hmin, _, rfl, ?_⟩
          refine ite2 (fun hc => ?_) (fun hc => ?_)
          · have hc : f < min o.length l.length := by have := of_decide_eq_true hc; omega
            obtain ⟨x, hx⟩ : ∃ x, l[f]? = some x := ⟨l[f], List.getElem?_eq_getElem (by omega)⟩
            obtain ⟨y, hy⟩ : ∃ y, o[f]? = some y := ⟨o[f], List.getElem?_eq_getElem (by omega)⟩
            refine ⟨_, rfl, _, rfl, S l, _, x, rfl, rfl, hzl, by rw [S_list]; exact atI_nat hx, _, rfl, _, rfl, S o, _, y, rfl, rfl, hzo, by rw [S_list]; exact atI_nat hy, rfl, _, rfl, ?_⟩
            have e : decide (V.str ⟨#[x]⟩ = V.str ⟨#[y]⟩) = decide (x = y) := by
              have := dec_S [x] [y]
              rw [show decide (([x] : List Nat) = [y]) = decide (x = y) from decide_eq_decide.mpr (by simp)] at this
              exact this
            rw [e]
            refine ite2 (fun hxy => ?_) (fun hxy => ?_)
            · have hxy : x = y := of_decide_eq_true hxy
              subst hxy
              have hfe := lcp_ext o l f x hf hy hx
              refine ⟨_, fun σ' H' h => h, _, rfl, _, _, rfl, rfl, ?_⟩
              exact ⟨l.length - (f + 1), by omega, f + 1, rfl, rfl, rfl, hfe⟩
            · have hxy : ¬ x = y := fun z => hxy (decide_eq_true z)
              rw [lcp_end o l f y x hf hy hx (fun z => hxy z.symm)]
              exact ⟨rfl, rfl⟩
          · have hc : ¬ f < min o.length l.length := fun z => hc (decide_eq_true (by omega))
            have : f = lcp o l := by omega
            rw [this]
            exact ⟨rfl, rfl⟩
        · rintro σ G' ⟨rfl, rfl⟩
          refine ⟨_, rfl, _, rfl, _, _, rfl, ?_⟩
          have e9 : (if ((lcp o l : Nat) : Int) > ((mx l (M.take kk) : Nat) : Int) then ((lcp o l : Nat) : Int) else ((mx l (M.take kk) : Nat) : Int)) = ((mx l (M.take (kk + 1)) : Nat) : Int) := by
            rw [mx_step eo]
            split <;> omega
          exact ⟨_, _, congrArg (fun z => [some (V.str (S l)), some (.ref m), some (V.int z), some (vS o), some (nI (lcp o l))]) e9, rfl⟩
      · rintro σ G ⟨x3, x4, rfl, rfl⟩
        rw [List.length_map, List.take_length]
        exact ⟨_, _, rfl, rfl⟩
    · rintro σ G ⟨x3, x4, rfl, rfl⟩
      exact ⟨_, rfl, k⟩
end
/-! the law's spot -/
theorem lns_len {t l : List Nat} (h : l ∈ lns t) : l.length ≤ t.length := by
  obtain ⟨a, b, e⟩ := List.append_of_mem h
  have h3 := (lns_ok t).2.2
  rw [e, jn_pre] at h3
  rw [← h3, List.length_append, List.length_append]
  omega
theorem inV_S (l : List Nat) : ∀ M : List (List Nat), inV (vS l) (M.map vS) = decide (l ∈ M)
  | [] => rfl
  | o :: M => by
    have ih := inV_S l M
    show (eqV (vS o) (vS l) || inV (vS l) (M.map vS)) = _
    rw [ih]
    have e : eqV (vS o) (vS l) = decide (o = l) := S_beq_eq
    rw [e]
    by_cases z : o = l
    · rw [decide_eq_true z, Bool.true_or, decide_eq_true (by rw [z]; exact List.mem_cons_self)]
    · rw [decide_eq_false z, Bool.false_or]
      refine decide_eq_decide.mpr ⟨fun h => List.mem_cons_of_mem _ h, fun h => ?_⟩
      rcases List.mem_cons.mp h with y | y
      · exact absurd y.symm z
      · exact y
theorem flat_S : ∀ M : List (List Nat), (M.map vS).all flatV = true
  | [] => rfl
  | o :: M => flat_S M
theorem menu_len (i : Nat) : ∀ o ∈ menu i, o.length ≤ 400 := by
  have h0 : mFst.all (fun o => decide (o.length ≤ 400)) = true := by decide +kernel
  have h1 : (mSnd ++ mTrd).all (fun o => decide (o.length ≤ 400)) = true := by decide +kernel
  have h2 : mTrd.all (fun o => decide (o.length ≤ 400)) = true := by decide +kernel
  intro o ho
  match i with
  | 0 => exact of_decide_eq_true (List.all_eq_true.mp h0 o ho)
  | 1 => exact of_decide_eq_true (List.all_eq_true.mp h1 o ho)
  | i + 2 => exact of_decide_eq_true (List.all_eq_true.mp h2 o ho)
end Wq
set_option Elab.async false
set_option linter.all false
set_option maxRecDepth 100000
set_option maxHeartbeats 4000000
namespace Wq
open PySem PySem.Spec PyProof.Rows L2
open SX (S S_len S_cat S_beq_eq)
abbrev sWS : Stmt := top 33
abbrev NWS : List Str := ["_law_text", "_law_menus_here", "_law_lines", "_law_menu", "_law_index", "_law_line", "_law_is_last"]
theorem scWS : FnScope NWS ["_law_text", "_law_menus_here"] (defScope sWS) := ⟨rfl, rfl, rfl, by decide +kernel, rfl, by decide +kernel, by decide +kernel⟩
def spWS : Sp := fun vs H Q _ => ∃ (t : List Nat) (m : Addr), vs = [.str (S t), .ref m] ∧ t.length ≤ 400 ∧ MnAt H m ∧ (ws 0 (lns t) = none → ∀ G, Same H G → Q .non G) ∧
  ∀ i c, ws 0 (lns t) = some (i, c) → ∀ r G, Same H G → G r = some (.tup [nI i, nI c]) → Q (.ref r) G
theorem drop_consL {l : List (List Nat)} {i : Nat} {c : List Nat} (h : l[i]? = some c) : l.drop i = c :: l.drop (i + 1) := by
  have hi := (List.getElem?_eq_some_iff.mp h).1
  rw [List.drop_eq_getElem_cons hi]
  congr 1
  exact (List.getElem?_eq_some_iff.mp h).2
theorem split_n {t : List Nat} : Txt.split (S t) (S [10]) = (lns t).map S := by rw [SX.split_S (b := [10]) (by decide) (by decide), lns_spl]
theorem map_vS (L : List (List Nat)) : (L.map S).map V.str = L.map vS := by rw [List.map_map]; rfl
theorem lns_many {t : List Nat} : (lns t).length ≤ t.length + 1 := by
  obtain ⟨h1, _, h3⟩ := lns_ok t
  have : ∀ L : List (List Nat), L ≠ [] → L.length ≤ (TL.joinL [10] L).length + 1 := by
    intro L
    induction L with
    | nil => intro h; exact absurd rfl h
    | cons l r ih =>
      intro _
      cases r with
      | nil => show 1 ≤ _; omega
      | cons m r =>
        have := ih (List.cons_ne_nil _ _)
        rw [jn_two, List.length_append]
        show (m :: r).length + 1 ≤ l.length + ((TL.joinL [10] (m :: r)).length + 1) + 1
        omega
  have := this _ h1
  rw [h3] at this
  exact this
section
variable {P : Program} {w : World} {K : PySem.W.Frag} {mg : Str → Option Value} {base : Heap} {C CT : Addr}
theorem ok_WS (D : DefAt K mg "_law_wrong_spot" sWS) (T : Txt K mg) (TM : TxtM mg) (CF : Cl P w K mg base 1 "_law_fit" (spFt K)) : Cl P w K mg base 2 "_law_wrong_spot" spWS := by
  refine cl_of D scWS (fun vs H Q E h => ?_) (fun _ _ _ _ _ _ us hl => match us, hl with | [_, _], _ => rfl) (fun f cdv A1 outer s H vs Q E hr h => ?_)
  · obtain ⟨t, m, rfl, _⟩ := h
    rfl
  · obtain ⟨t, m, rfl, htl, hM, k1, k2⟩ := h
    refine ⟨_, C8.pss_cut (ps_par (i := 2) (j := 3) (by rfl) scWS.nd rfl rfl (by decide) rfl rfl (pa_cons (pe_split (pv 0) pe_str) (pa_cons (pe_ix ix_list (pv 1) pe_int (fun _ _ => rfl)) pa_nil)) (by rfl))
(C8.pss_cut (ps_for PassesOwn.never rfl (pi_enum rfl (by exact TM.en) (pa_cons (pv 2) pa_nil)) (pg_tup (by rfl) (pgs_cons (pg_name (i := 4) scWS.nd rfl (Or.inl rfl)) (pgs_cons (pg_name (i := 5) scWS.nd rfl (Or.inl rfl)) pgs_nil)))
(pss_cons (ps_set (i := 6) scWS.nd rfl (Or.inl rfl) (pe_cmpR op_eq (pe_op op_add (pv 4) pe_int) (pe_callB call_len_seq (by rfl) (by exact T.len) PySem.boot_len (pa_cons (pv 2) pa_nil)) (nomark _)))
(pss_cons (ps_if (PW.pt (pw_or (pt_cmpR op_notIn_seq (pv 5) (pv 3) rfl) (pw_or1 (PW.pt (pw_and (pt_not (pt_val (pv 6))) (pw_and1 (pt_cmpR op_in_seq (pv 5) (pe_ix ix_list (pv 1) pe_int (fun _ _ => rfl)) rfl)))))))
(pss_one (ps_ret (pe_tup (pa_cons (pe_op op_add (pv 4) pe_int) (pa_cons (pe_op op_add (pe_cl CF hr (by decide) rfl (pa_cons (pv 5) (pa_cons (pv 3) pa_nil))) pe_int) pa_nil)))))
pss_nil)
(pss_one (ps_set (i := 3) scWS.nd rfl (Or.inl rfl) (pe_ifExp (pt_cmpR op_eq (pv 4) pe_int (nomark _)) (pe_op op_cat (pe_ix ix_list (pv 1) pe_int (fun _ _ => rfl)) (pe_ix ix_list (pv 1) pe_int (fun _ _ => rfl))) (pe_ix ix_list (pv 1) pe_int (fun _ _ => rfl))))))))
(pss_one (ps_ret pe_non))), ?_⟩
    obtain ⟨m0, m1, m2, hm, hm0, hm1, hm2⟩ := hM.ex
    have hzt : (S t).length + 2 ≤ sizeLine := by rw [S_len, sizeLine_eq]; omega
    have hLn := lns_many (t := t)
    have hLl : ∀ l ∈ lns t, l.length ≤ 400 := fun l hl => Nat.le_trans (lns_len hl) htl
    have l96 : mSnd.length + mTrd.length ≤ 300 := by decide +kernel
    refine ⟨fun σ G => ∃ q : Addr, σ = [some (.str (S t)), some (.ref m), some (.ref q), some (.ref m0), none, none, none] ∧ Same H G ∧ G q = some (.lst ((lns t).map vS)), ?_, ?_⟩
    · refine ⟨_, rfl, ⟨_, rfl⟩, S t, S [10], rfl, congrArg (fun z => [z]) lit_n, by rfl, hzt, fun q hq => ?_⟩
      rw [split_n, map_vS]
      have sq := sNew (o := .lst ((lns t).map vS)) hq
      exact ⟨_, rfl, m, _, 0, .ref m0, rfl, rfl, .inl (.inl (sq _ _ hm)), rfl, _, _, rfl, q, rfl, sq, upd_same⟩
    rintro σ G1 ⟨q, rfl, s1, hq⟩
    generalize hL : lns t = L at *
    have hLen : (L.map vS).length = L.length := List.length_map ..
    refine ⟨fun σ G => ws 0 L = none ∧ Same H G, ?_, fun σ G ⟨h, s⟩ => k1 h G s⟩
    refine ⟨_, rfl, q, _, rfl, .inl (.inl hq), ?_⟩
    refine for_it (walk_enum (K := K) (a := q) (xs := L.map vS)) (fun j σ G => ∃ (mj : Addr) (x4 x5 x6 : Option V), σ = [some (.str (S t)), some (.ref m), some (.ref q), some (.ref mj), x4, x5, x6] ∧ Same G1 G ∧ G mj = some (.lst ((menu j).map vS)) ∧ ws 0 L = ws j (L.drop j))
      ⟨m0, _, _, _, rfl, .refl _, s1 _ _ hm0, rfl⟩ (fun j σ G _ ⟨_, _, _, _, _, sg, _⟩ => .inl (.inl (sg _ _ hq))) ?_ ?_
    · rintro j z σ G2 G3 hj ⟨mj, x4, x5, x6, rfl, s2, hmj, hws⟩ ⟨tp, x, y, rfl, htp, rfl, hx, hy⟩
      have hx := (Option.some.inj hx).symm
      subst hx
      have hy : (L.map vS)[j]? = some y := hy
      rw [List.getElem?_map] at hy
      cases el : L[j]? with
      | none => rw [el] at hy; cases hy
      | some l =>
      rw [el] at hy
      have hy := (Option.some.inj hy).symm
      subst hy
      have hjl : j < L.length := (List.getElem?_eq_some_iff.mp el).1
      rw [drop_consL el] at hws
      have hll := hLl l (List.mem_of_getElem? el)
      have s3 := sNew (o := .tup [V.int (j : Int), vS l]) htp
      have sA := s1.trans (s2.trans s3)
      refine ⟨tp, _, rfl, .inl (.inl upd_same), rfl, _, _, rfl, _, _, rfl, rfl, ?_⟩
      refine ⟨_, rfl, _, _, rfl, rfl, _, rfl, q, _, rfl, .inl (.inl (.inl (s3 _ _ (s2 _ _ hq)))), rfl, ?_⟩
      have elast : decide (V.int ((j : Int) + 1) = V.int (((L.map vS).length : Nat) : Int)) = decide (L.drop (j + 1) = []) := by
        rw [hLen]
        refine decide_eq_decide.mpr ⟨fun z => ?_, fun z => ?_⟩
        · have z := V.int.inj z
          exact List.drop_eq_nil_of_le (by omega)
        · have := congrArg List.length z
          rw [List.length_drop] at this
          have h0 : ([] : List (List Nat)).length = 0 := rfl
          exact congrArg V.int (by omega)
      have hmj3 : upd G2 tp (.tup [V.int (j : Int), vS l]) mj = some (.lst ((menu j).map vS)) := s3 _ _ hmj
      generalize hG4 : upd G2 tp (.tup [V.int (j : Int), vS l]) = G4 at *
      rw [elast]
      -- what is returned
      have fin : (l ∉ menu j ∨ (L.drop (j + 1) ≠ [] ∧ l ∈ mTrd)) → ∀ r G', Same G4 G' → G' r = some (.tup [.int ((j : Int) + 1), .int ((mx l (menu j) : Nat) + 1 : Int)]) → Q (.ref r) G' := fun hc r G' sg hr' => by
        rw [ws_yes hc] at hws
        refine k2 _ _ hws r G' (sA.trans sg) ?_
        rw [hr']
        rfl
      refine ⟨_, rfl, _, rfl, mj, _, rfl, .inl (.inl (.inl hmj3)), by rfl, flat_S _, _, rfl, ?_⟩
      rw [inV_S]
      refine ite2 (fun hc => ?_) (fun hc => ?_)
      · have hc : l ∉ menu j := by simpa using hc
        refine (if_pos rfl).mpr ?_
        refine ⟨_, rfl, _, _, rfl, rfl, _, rfl, _, rfl, l, mj, menu j, rfl, hll, .inl (.inl hmj3), menu_len j, _, _, rfl, rfl, by show 2 ≤ sizeLine; decide, fun r hr' => fin (.inl hc) r _ (sNew hr') upd_same⟩
      · have hc : l ∈ menu j := by simpa using hc
        refine ⟨_, rfl, _, rfl, ?_⟩
        refine ite2 (fun hl => ?_) (fun hl => ?_)
        · have hl : L.drop (j + 1) ≠ [] := by simpa using hl
          refine ⟨_, rfl, _, rfl, m, _, 2, .ref m2, rfl, rfl, .inl (.inl (sA _ _ hm)), rfl, m2, _, rfl, .inl (.inl (.inl (sA _ _ hm2))), by rfl, flat_S _, _, rfl, ?_⟩
          rw [inV_S]
          refine ite2 (fun ht => ?_) (fun ht => ?_)
          · have ht : l ∈ mTrd := by simpa using ht
            refine ⟨_, rfl, _, _, rfl, rfl, _, rfl, _, rfl, l, mj, menu j, rfl, hll, .inl (.inl hmj3), menu_len j, _, _, rfl, rfl, by show 2 ≤ sizeLine; decide, fun r hr' => fin (.inr ⟨hl, ht⟩) r _ (sNew hr') upd_same⟩
          · have ht : l ∉ mTrd := by simpa using ht
            rw [ws_no (fun z => z.elim (fun z => z hc) fun z => ht z.2)] at hws
            refine ⟨_, rfl, rfl, _, rfl, ?_⟩
            have e0 : decide (V.int (j : Int) = V.int 0) = decide (j = 0) := decide_eq_decide.mpr ⟨fun z => by have := V.int.inj z; omega, fun z => by rw [z]; rfl⟩
            rw [e0]
            refine ite2 (fun hj0 => ?_) (fun hj0 => ?_)
            · have hj0 : j = 0 := of_decide_eq_true hj0
              subst hj0
              refine ⟨_, rfl, m, _, 1, _, rfl, rfl, .inl (.inl (sA _ _ hm)), rfl, _, rfl, m, _, 2, _, rfl, rfl, .inl (.inl (sA _ _ hm)), rfl, m1, m2, _, _, rfl, rfl, sA _ _ hm1, sA _ _ hm2, by rw [List.length_map, List.length_map, sizeLine_eq]; omega, fun p hp => ?_⟩
              refine ⟨p, _, _, _, rfl, s2.trans (s3.trans (sNew hp)), ?_, hws⟩
              rw [upd_same, ← List.map_append]
              rfl
            · have hj0 : ¬ j = 0 := fun z => hj0 (decide_eq_true z)
              refine ⟨_, rfl, m, _, 2, _, rfl, rfl, .inl (.inl (sA _ _ hm)), rfl, ?_⟩
              refine ⟨m2, _, _, _, rfl, s2.trans s3, ?_, hws⟩
              rw [sA _ _ hm2]
              obtain ⟨j', rfl⟩ : ∃ j', j = j' + 1 := ⟨j - 1, by omega⟩
              rfl
        · have hl : L.drop (j + 1) = [] := by simpa using hl
          rw [ws_no (fun z => z.elim (fun z => z hc) fun z => z.1 hl)] at hws
          refine (if_neg (by decide)).mpr ?_
          refine ⟨_, rfl, rfl, _, rfl, ?_⟩
          have e0 : decide (V.int (j : Int) = V.int 0) = decide (j = 0) := decide_eq_decide.mpr ⟨fun z => by have := V.int.inj z; omega, fun z => by rw [z]; rfl⟩
          rw [e0]
          refine ite2 (fun hj0 => ?_) (fun hj0 => ?_)
          · have hj0 : j = 0 := of_decide_eq_true hj0
            subst hj0
            refine ⟨_, rfl, m, _, 1, _, rfl, rfl, .inl (.inl (sA _ _ hm)), rfl, _, rfl, m, _, 2, _, rfl, rfl, .inl (.inl (sA _ _ hm)), rfl, m1, m2, _, _, rfl, rfl, sA _ _ hm1, sA _ _ hm2, by rw [List.length_map, List.length_map, sizeLine_eq]; omega, fun p hp => ?_⟩
            refine ⟨p, _, _, _, rfl, s2.trans (s3.trans (sNew hp)), ?_, hws⟩
            rw [upd_same, ← List.map_append]
            rfl
          · have hj0 : ¬ j = 0 := fun z => hj0 (decide_eq_true z)
            refine ⟨_, rfl, m, _, 2, _, rfl, rfl, .inl (.inl (sA _ _ hm)), rfl, ?_⟩
            refine ⟨m2, _, _, _, rfl, s2.trans s3, ?_, hws⟩
            rw [sA _ _ hm2]
            obtain ⟨j', rfl⟩ : ∃ j', j = j' + 1 := ⟨j - 1, by omega⟩
            rfl
    · rintro σ G ⟨mj, x4, x5, x6, rfl, sg, hmj, hws⟩
      rw [hLen, List.drop_length] at hws
      exact ⟨hws, s1.trans sg⟩
end
end Wq
set_option Elab.async false
set_option linter.all false
set_option maxRecDepth 100000
set_option maxHeartbeats 4000000
namespace Wq
open PySem PySem.Spec PyProof.Rows L2
open SX (S S_len S_cat S_beq_eq)
/-! the words of the lines of a right text -/
def kBl : List Nat := [98, 108, 111, 99, 107, 115]
def kFree : List Nat := [102, 114, 101, 101]
def kTo : List Nat := [116, 111]
def kOf : List Nat := [111, 102]
def kBits : List Nat := [98, 105, 116, 115]
def kEx : List Nat := [101, 120, 99, 101, 112, 116, 105, 111, 110, 115]
def kHd : List Nat := [104, 101, 97, 100]
def w1 (y : Ly) : List (List Nat) := if y.fr = true then [kBl, kFree, kTo, TL.numL y.B] else [kBl, kOf, TL.numL y.B]
def w2 (y : Ly) : List (List Nat) := [kEx, TL.numL y.E, kOf, TL.numL y.X, kBits]
def w3 (hd : Int) : List (List Nat) := [kHd, TL.numL hd.toNat, kBits]
def wT (y : Ly) (hd : Int) : List (List (List Nat)) := (if 0 < y.E then [w2 y] else []) ++ (if 0 ≤ hd then [w3 hd] else [])
def WW (y : Ly) (hd : Int) : List (List (List Nat)) := w1 y :: wT y hd
def jb (w : List (List Nat)) : List Nat := TL.joinL [32] w
theorem jb_two (l m : List Nat) (r : List (List Nat)) : TL.joinL [32] (l :: m :: r) = l ++ 32 :: TL.joinL [32] (m :: r) := by rw [TL.joinL.eq_3]; rfl
theorem jb_one (l : List Nat) : TL.joinL [32] [l] = l := rfl
theorem num_dig {n : Nat} (h : n < 100) : (TL.numL n).all isD = true := by
  have := isBg_num (hi := 100) (n := n) (by omega) h
  unfold isBg at this
  exact (Bool.and_eq_true_iff.mp this).1
theorem num_no {n c : Nat} (h : n < 100) (hc : isD c = false) : c ∉ TL.numL n := fun z => by
  have := List.all_eq_true.mp (num_dig h) c z
  rw [hc] at this
  cases this
theorem jb1 (y : Ly) : jb (w1 y) = cBlk y.fr ++ TL.numL y.B := by
  unfold jb w1
  cases y.fr
  · rw [if_neg (by decide), jb_two, jb_two, jb_one]; rfl
  · rw [if_pos rfl, jb_two, jb_two, jb_two, jb_one]; rfl
theorem jb2 (y : Ly) : jb (w2 y) = cE1 ++ (TL.numL y.E ++ (cOf ++ (TL.numL y.X ++ cBits))) := by
  unfold jb w2
  rw [jb_two, jb_two, jb_two, jb_two, jb_one]
  rfl
theorem jb3 (hd : Int) : jb (w3 hd) = cH1 ++ (TL.numL hd.toNat ++ cBits) := by
  unfold jb w3
  rw [jb_two, jb_two, jb_one]
  rfl
theorem tx_lines (y : Ly) (hd : Int) : Tx y hd = TL.joinL [10] ((WW y hd).map jb) := by
  unfold Tx WW wT tEx tHd
  rw [List.map_cons, jb1]
  by_cases hE : 0 < y.E
  · by_cases h0 : 0 ≤ hd
    · rw [if_pos hE, if_pos hE, if_pos h0, if_pos h0]
      show _ = TL.joinL [10] [_, jb (w2 y), jb (w3 hd)]
      rw [jn_two, jn_two, jb2, jb3]
      show _ = cBlk y.fr ++ TL.numL y.B ++ 10 :: (cE1 ++ (TL.numL y.E ++ (cOf ++ (TL.numL y.X ++ cBits))) ++ 10 :: (cH1 ++ (TL.numL hd.toNat ++ cBits)))
      simp only [List.append_assoc, List.cons_append]
      rfl
    · rw [if_pos hE, if_pos hE, if_neg h0, if_neg h0]
      show _ = TL.joinL [10] [_, jb (w2 y)]
      rw [jn_two, jb2]
      show _ = cBlk y.fr ++ TL.numL y.B ++ 10 :: (cE1 ++ (TL.numL y.E ++ (cOf ++ (TL.numL y.X ++ cBits))))
      simp only [List.append_assoc, List.cons_append, List.append_nil]
      rfl
  · by_cases h0 : 0 ≤ hd
    · rw [if_neg hE, if_neg hE, if_pos h0, if_pos h0]
      show _ = TL.joinL [10] [_, jb (w3 hd)]
      rw [jn_two, jb3]
      show _ = cBlk y.fr ++ TL.numL y.B ++ 10 :: (cH1 ++ (TL.numL hd.toNat ++ cBits))
      simp only [List.append_assoc, List.cons_append, List.nil_append]
      rfl
    · rw [if_neg hE, if_neg hE, if_neg h0, if_neg h0]
      show _ = cBlk y.fr ++ TL.numL y.B
      simp only [List.append_assoc, List.append_nil]
/-- the words have no blank, and no new line -/
theorem ww_no {y : Ly} {hd : Int} (h : PaX y hd) : ∀ w ∈ WW y hd, w ≠ [] ∧ (∀ p ∈ w, 32 ∉ p) ∧ 10 ∉ jb w := by
  have b1 : y.B < 100 := by have := h.ok.b16; omega
  have b2 : y.E < 100 := by have := h.ok.e; omega
  have b3 : y.X < 100 := by have := h.ok.x; omega
  have b4 : hd.toNat < 100 := by have := h.h64; omega
  have n1 := num_no b1 (c := 32) (by decide)
  have n2 := num_no b2 (c := 32) (by decide)
  have n3 := num_no b3 (c := 32) (by decide)
  have n4 := num_no b4 (c := 32) (by decide)
  have k1 := num_no b1 (c := 10) (by decide)
  have k2 := num_no b2 (c := 10) (by decide)
  have k3 := num_no b3 (c := 10) (by decide)
  have k4 := num_no b4 (c := 10) (by decide)
  have c1 : 32 ∉ kBl := by decide
  have c2 : 32 ∉ kFree := by decide
  have c3 : 32 ∉ kTo := by decide
  have c4 : 32 ∉ kOf := by decide
  have c5 : 32 ∉ kBits := by decide
  have c6 : 32 ∉ kEx := by decide
  have c7 : 32 ∉ kHd := by decide
  have g1 : ∀ w, w = w1 y → w ≠ [] ∧ (∀ p ∈ w, 32 ∉ p) ∧ 10 ∉ jb w := fun w e => by
    subst e
    refine ⟨by unfold w1; split <;> exact List.cons_ne_nil _ _, ?_, ?_⟩
    · unfold w1
      split
      · simp [c1, c2, c3, n1]
      · simp [c1, c4, n1]
    · rw [jb1]
      have : 10 ∉ cBlk y.fr := by cases y.fr <;> decide
      simp [this, k1]
  have g2 : ∀ w, w = w2 y → w ≠ [] ∧ (∀ p ∈ w, 32 ∉ p) ∧ 10 ∉ jb w := fun w e => by
    subst e
    refine ⟨List.cons_ne_nil _ _, ?_, ?_⟩
    · unfold w2
      simp [c4, c5, c6, n2, n3]
    · rw [jb2]
      have d1 : 10 ∉ cE1 := by decide
      have d2 : 10 ∉ cOf := by decide
      have d3 : 10 ∉ cBits := by decide
      simp [d1, d2, d3, k2, k3]
  have g3 : ∀ w, w = w3 hd → w ≠ [] ∧ (∀ p ∈ w, 32 ∉ p) ∧ 10 ∉ jb w := fun w e => by
    subst e
    refine ⟨List.cons_ne_nil _ _, ?_, ?_⟩
    · unfold w3
      simp [c5, c7, n4]
    · rw [jb3]
      have d1 : 10 ∉ cH1 := by decide
      have d3 : 10 ∉ cBits := by decide
      simp [d1, d3, k4]
  intro w hw
  rcases List.mem_cons.mp hw with z | z
  · exact g1 w z
  · unfold wT at z
    rcases List.mem_append.mp z with z | z
    · split at z
      · exact g2 w (List.mem_singleton.mp z)
      · cases z
    · split at z
      · exact g3 w (List.mem_singleton.mp z)
      · cases z
theorem lns_tx {y : Ly} {hd : Int} (h : PaX y hd) : lns (Tx y hd) = (WW y hd).map jb := by
  rw [tx_lines]
  refine lns_join (by unfold WW; simp) fun l hl => ?_
  obtain ⟨w, hw, rfl⟩ := List.mem_map.mp hl
  exact (ww_no h w hw).2.2
theorem split_b {y : Ly} {hd : Int} (h : PaX y hd) {w : List (List Nat)} (hw : w ∈ WW y hd) : Txt.split (S (jb w)) (S [32]) = w.map S := by
  rw [SX.split_S (b := [32]) (by decide) (by decide)]
  obtain ⟨h1, h2, _⟩ := ww_no h w hw
  rw [show TL.spl [32] 0 [] (jb w) = w from SX.spl_join (c := 32) (sep := []) h1 h2]
end Wq
set_option Elab.async false
set_option linter.all false
set_option maxRecDepth 100000
set_option maxHeartbeats 4000000
namespace Wq
open PySem PySem.Spec PyProof.Rows L2
open SX (S S_len S_cat S_beq_eq)
abbrev sLh : Stmt := top 30
theorem scLh : FnScope ["_law_parts_here"] ["_law_parts_here"] (defScope sLh) := ⟨rfl, rfl, rfl, by decide +kernel, rfl, by decide +kernel, by decide +kernel⟩
def spLh (K : PySem.W.Frag) : Sp := fun vs H Q _ => ∃ (q : Addr) (y : Ly) (hd : Int), vs = [.ref q] ∧ SqL K H q (paV y hd) ∧ HdOk y hd ∧ Q (nI y.H) H
/-- rows of words -/
def WdAt (G : Hp) (D : Addr) (Ws : List (List (List Nat))) : Prop := ∃ qs : List Addr, G D = some (.lst (qs.map V.ref)) ∧ qs.length = Ws.length ∧ ∀ (k : Nat) (w : List (List Nat)), Ws[k]? = some w → ∃ q, qs[k]? = some q ∧ q ≠ D ∧ G q = some (.lst (w.map vS))
theorem WdAt.same {G G' : Hp} {D : Addr} {Ws : List (List (List Nat))} (h : WdAt G D Ws) (s : Same G G') : WdAt G' D Ws := by
  obtain ⟨qs, h1, h2, h3⟩ := h
  exact ⟨qs, s _ _ h1, h2, fun k w hk => by
    obtain ⟨q, a, b, c⟩ := h3 k w hk
    exact ⟨q, a, b, s _ _ c⟩⟩
theorem WdAt.push {G : Hp} {D q : Addr} {Ws : List (List (List Nat))} {w : List (List Nat)} (h : WdAt G D Ws) (hq : G q = some (.lst (w.map vS))) (hne : q ≠ D) : ∃ xs, G D = some (.lst xs) ∧ xs.length = Ws.length ∧ WdAt (upd G D (.lst (xs ++ [.ref q]))) D (Ws ++ [w]) := by
  obtain ⟨qs, h1, h2, h3⟩ := h
  refine ⟨qs.map V.ref, h1, by rw [List.length_map, h2], qs ++ [q], by rw [upd_same, List.map_append]; rfl, by simp [h2], fun k u hk => ?_⟩
  by_cases hlt : k < Ws.length
  · rw [List.getElem?_append_left hlt] at hk
    obtain ⟨q', a, b, c⟩ := h3 k u hk
    refine ⟨q', by rw [List.getElem?_append_left (by omega)]; exact a, b, by rw [upd_ne b]; exact c⟩
  · rw [List.getElem?_append_right (by omega)] at hk
    have hk0 : k - Ws.length = 0 := by
      have := (List.getElem?_eq_some_iff.mp hk).1
      simp at this
      omega
    rw [hk0] at hk
    have : w = u := by simpa using hk
    subst this
    refine ⟨q, ?_, hne, by rw [upd_ne hne]; exact hq⟩
    rw [List.getElem?_append_right (by omega), show k - qs.length = 0 by omega]
    rfl
theorem int_n {n : Nat} (h : n < 100) : PySem.intText? (S (TL.numL n)) = some ((n : Nat) : Int) := by
  have e := SX.int_S (a := TL.numL n) (num_dig h) (TL.numL_ne n) (by have := num_len2 h; omega)
  rw [TL.numL_val] at e
  exact e
theorem lit_sp : V.str " " = V.str (S [32]) := congrArg V.str (show (" " : Str) = S [32] by decide +kernel)
theorem lit_free : V.str "free" = V.str (S kFree) := congrArg V.str (show ("free" : Str) = S kFree by decide +kernel)
theorem lit_head : V.str "head" = V.str (S kHd) := congrArg V.str (show ("head" : Str) = S kHd by decide +kernel)
theorem ww_len {y : Ly} {hd : Int} : (WW y hd).length ≤ 3 := by
  unfold WW wT
  split <;> split <;> simp
abbrev sTP : Stmt := top 34
abbrev NTP : List Str := ["_law_text", "_law_lines", "_law_parts_here", "_law_words", "_law_line"]
theorem scTP : FnScope NTP ["_law_text"] (defScope sTP) := ⟨rfl, rfl, rfl, by decide +kernel, rfl, by decide +kernel, by decide +kernel⟩
def spTP : Sp := fun vs H Q _ => ∃ (y : Ly) (hd : Int), vs = [.str (S (Tx y hd))] ∧ PaX y hd ∧ (0 ≤ hd ∨ hd = -1) ∧ ∀ q G, Same H G → G q = some (.lst (paV y hd)) → Q (.ref q) G
/-- the parts, behind so many of the further lines -/
def acc (y : Ly) (hd : Int) (k : Nat) : List V := [.bl y.fr, nI y.B, .int (if 0 < y.E ∧ 1 ≤ k then y.E else 0), .int (if 0 < y.E ∧ 1 ≤ k then y.X else 0), .int (if 0 ≤ hd ∧ (wT y hd).length ≤ k then hd else -1)]
section
variable {P : Program} {w : World} {K : PySem.W.Frag} {mg : Str → Option Value} {base : Heap} {C CT : Addr}
theorem ok_Lh (D : DefAt K mg "_law_head" sLh) : Cl P w K mg base 1 "_law_head" (spLh K) := by
  refine cl_of D scLh (fun vs H Q E h => ?_) (fun _ _ _ _ _ _ us hl => match us, hl with | [_], _ => rfl) (fun f cdv A1 outer s H vs Q E hr h => ?_)
  · obtain ⟨q, y, hd, rfl, _⟩ := h
    rfl
  · obtain ⟨q, y, hd, rfl, hq, hh, k⟩ := h
    refine ⟨_, pss_one (ps_ret (pe_ifExp (pt_cmpR op_lt (pe_ix ix_list (pv 0) pe_int (fun _ _ => rfl)) pe_int (nomark _)) pe_int (pe_ix ix_list (pv 0) pe_int (fun _ _ => rfl)))), ?_⟩
    unfold HdOk at hh
    refine ⟨_, rfl, q, _, 4, _, rfl, rfl, hq, by rfl, _, _, rfl, rfl, _, rfl, ?_⟩
    refine ite2 (fun h => ?_) (fun h => ?_)
    · have h := of_decide_eq_true h
      rw [if_pos h] at hh
      have e : nI y.H = .int 8 := congrArg V.int hh
      rw [e] at k
      exact k
    · have h := fun z => h (decide_eq_true z)
      rw [if_neg h] at hh
      have e : nI y.H = .int hd := congrArg V.int hh
      rw [e] at k
      exact ⟨_, rfl, q, _, 4, _, rfl, rfl, hq, by rfl, k⟩
theorem ok_TP (D : DefAt K mg "_law_text_parts" sTP) (T : Txt K mg) : Cl P w K mg base 1 "_law_text_parts" spTP := by
  refine cl_of D scTP (fun vs H Q E h => ?_) (fun _ _ _ _ _ _ us hl => match us, hl with | [_], _ => rfl) (fun f cdv A1 outer s H vs Q E hr h => ?_)
  · obtain ⟨y, hd, rfl, _⟩ := h
    rfl
  · obtain ⟨y, hd, rfl, hp, hn, k⟩ := h
    refine ⟨_, C8.pss_cut (ps_setLc (i := 1) (own := [("_law_line", 4)]) (g := gName 4) (tt := tYes) (by rfl) scTP.nd rfl rfl (sw_true rfl rfl rfl (by decide +kernel)) (pi_list (pe_split (pv 0) pe_str)) (blkOk_by (own := [("_law_line", 4)]) (N := NTP) (sc := defScope sTP) (by decide +kernel)) (fun _ _ _ _ _ => (pg_name (i := 4) scTP.nd rfl (Or.inl rfl))) (fun _ _ _ _ _ => pts_nil) (fun _ _ _ _ _ => (pe_split (pv 4) pe_str)))
(C8.pss_cut (ps_set (i := 2) scTP.nd rfl (Or.inl rfl) (pe_lst (pa_cons (pe_cmpR op_eq (pe_ix ix_list (pe_ix ix_list (pv 1) pe_int (fun _ _ => rfl)) pe_int (fun _ _ => rfl)) pe_str (nomark _)) (pa_cons (pe_callTy call_int_str (by rfl) (by exact T.int) PyProof.Rows.boot_int (pa_cons (pe_ix ix_list (pe_ix ix_list (pv 1) pe_int (fun _ _ => rfl)) (pe_un un_neg pe_int) (fun _ _ => rfl)) pa_nil)) (pa_cons pe_int (pa_cons pe_int (pa_cons (pe_un un_neg pe_int) pa_nil)))))))
(C8.pss_cut (ps_for PassesOwn.never rfl (pi_list (pe_slice sl_list (pv 1) (po_some pe_int) po_none)) (pg_name (i := 3) scTP.nd rfl (Or.inl rfl))
(pss_one (ps_if (pt_cmpR op_eq (pe_ix ix_list (pv 3) pe_int (fun _ _ => rfl)) pe_str (nomark _))
(pss_one (ps_asg (pe_callTy call_int_str (by rfl) (by exact T.int) PyProof.Rows.boot_int (pa_cons (pe_ix ix_list (pv 3) pe_int (fun _ _ => rfl)) pa_nil)) (pg_sub (pv 2) pe_int set_list)))
(pss_cons (ps_asg (pe_callTy call_int_str (by rfl) (by exact T.int) PyProof.Rows.boot_int (pa_cons (pe_ix ix_list (pv 3) pe_int (fun _ _ => rfl)) pa_nil)) (pg_sub (pv 2) pe_int set_list))
(pss_one (ps_asg (pe_callTy call_int_str (by rfl) (by exact T.int) PyProof.Rows.boot_int (pa_cons (pe_ix ix_list (pv 3) pe_int (fun _ _ => rfl)) pa_nil)) (pg_sub (pv 2) pe_int set_list)))))))
(pss_one (ps_ret (pv 2))))), ?_⟩
    have hTl := Tx_len hp.toPaOk
    have ok := hp.ok
    have bB : y.B < 100 := by have := ok.b16; omega
    have bE : y.E < 100 := by have := ok.e; omega
    have bX : y.X < 100 := by have := ok.x; omega
    have bH : hd.toNat < 100 := by have := hp.h64; omega
    have d1 := num_len2 bB
    have d2 := num_len2 bE
    have d3 := num_len2 bX
    have d4 := num_len2 bH
    have hW3 := ww_len (y := y) (hd := hd)
    have hll : ∀ wd ∈ WW y hd, (jb wd).length ≤ 100 := fun wd hw => by
      have : jb wd ∈ lns (Tx y hd) := by rw [lns_tx hp]; exact List.mem_map.mpr ⟨wd, hw, rfl⟩
      exact Nat.le_trans (lns_len this) hTl
    -- the words
    refine ⟨fun σ G => ∃ D : Addr, σ = [some (.str (S (Tx y hd))), some (.ref D), none, none, none] ∧ Same H G ∧ WdAt G D (WW y hd), ?_, ?_⟩
    · refine ⟨_, rfl, ⟨_, rfl⟩, S (Tx y hd), S [10], rfl, congrArg (fun z => [z]) lit_n, by rfl, by rw [S_len, sizeLine_eq]; omega, fun l hl => ?_⟩
      rw [split_n, map_vS, lns_tx hp]
      have sl := sNew (o := .lst (((WW y hd).map jb).map vS)) hl
      refine ⟨l, rfl, ⟨_, .inl (.inl upd_same)⟩, fun D hD => ?_⟩
      have hlD : l ≠ D := ne_of_none upd_same hD
      refine lc_list (K := K) (a := l) (xs := ((WW y hd).map jb).map vS) (fun i G => Same (upd H l (.lst (((WW y hd).map jb).map vS))) G ∧ WdAt G D ((WW y hd).take i)) ⟨sNew hD, [], upd_same, rfl, fun k w hk => by simp at hk⟩ (fun i G _ ⟨sm, _⟩ => .inl (.inl (sm _ _ upd_same))) ?_ ?_
      · rintro i z G hi ⟨sm, hW⟩
        rw [List.getElem?_map, List.getElem?_map] at hi
        cases ew : (WW y hd)[i]? with
        | none => rw [ew] at hi; cases hi
        | some wd =>
        rw [ew] at hi
        have hi := (Option.some.inj hi).symm
        subst hi
        have hwm := List.mem_of_getElem? ew
        refine ⟨rfl, ?_⟩
        simp only [tYes, if_true]
        refine ⟨_, rfl, ⟨_, rfl⟩, S (jb wd), S [32], rfl, congrArg (fun z => [z]) lit_sp, by rfl, by have := hll wd hwm; rw [S_len, sizeLine_eq]; omega, fun q hq => ?_⟩
        rw [split_b hp hwm, map_vS]
        have s2 := sNew (o := .lst (wd.map vS)) hq
        obtain ⟨qs0, hD0, _⟩ := id hW
        have hqD : q ≠ D := (ne_of_none hD0 hq).symm
        obtain ⟨xs, h1, h2, h3⟩ := (hW.same s2).push (w := wd) upd_same hqD
        refine ⟨xs, h1, by rw [h2, List.length_take, sizeLine_eq]; omega, ?_, ?_⟩
        · exact sPut (sm.trans s2) hD
        · rw [List.take_succ, ew]
          exact h3
      · rintro G ⟨sm, hW⟩
        rw [List.length_map, List.length_map, List.take_length] at hW
        exact ⟨D, rfl, sl.trans sm, hW⟩
    rintro σ G1 ⟨D, rfl, s1, hW⟩
    obtain ⟨qs, hD, hql, hqs⟩ := id hW
    obtain ⟨q0, hq0, _, hq0w⟩ := hqs 0 (w1 y) rfl
    have hat0 : atI (qs.map V.ref) 0 = some (.ref q0) := atI_nat (j := 0) (by rw [List.getElem?_map, hq0]; rfl)
    -- the first line
    refine ⟨fun σ G => ∃ p : Addr, σ = [some (.str (S (Tx y hd))), some (.ref D), some (.ref p), none, none] ∧ Same G1 G ∧ G1 p = none ∧ G p = some (.lst (acc y hd 0)), ?_, ?_⟩
    · have hfree : ∃ x rest, w1 y = kBl :: x :: rest ∧ decide (V.str (S x) = V.str (S kFree)) = y.fr := by
        unfold w1
        cases y.fr
        · exact ⟨kOf, _, rfl, by rw [dec_S]; decide⟩
        · exact ⟨kFree, _, rfl, by rw [dec_S]; decide⟩
      obtain ⟨x, rest, hx, hxf⟩ := hfree
      have hlast : ∃ r, (w1 y).map vS = r ++ [vS (TL.numL y.B)] := by
        unfold w1
        split
        · exact ⟨[vS kBl, vS kFree, vS kTo], rfl⟩
        · exact ⟨[vS kBl, vS kOf], rfl⟩
      obtain ⟨r0, hr0⟩ := hlast
      refine ⟨_, rfl, D, _, 0, _, rfl, rfl, .inl (.inl hD), hat0, q0, _, 1, vS x, rfl, rfl, .inl (.inl hq0w), by rw [hx]; exact atI_nat (j := 1) rfl, rfl, ?_⟩
      rw [lit_free, show (vS x : V) = V.str (S x) from rfl, hxf]
      refine ⟨_, rfl, D, _, 0, _, rfl, rfl, .inl (.inl hD), hat0, _, rfl, q0, _, -1, vS (TL.numL y.B), rfl, rfl, .inl (.inl hq0w), by rw [hr0]; exact atI_last _ _, S (TL.numL y.B), ((y.B : Nat) : Int), rfl, int_n bB, by rw [S_len]; omega, _, rfl, by show 5 ≤ sizeLine; decide, fun p hp9 => ?_⟩
      refine ⟨p, rfl, sNew hp9, hp9, ?_⟩
      rw [upd_same]
      unfold acc
      rw [if_neg (fun z => by have := z.2; omega), if_neg (fun z => by have := z.2; omega)]
      by_cases h0 : 0 ≤ hd ∧ (wT y hd).length ≤ 0
      · exfalso
        have h1 : (wT y hd).length = 0 := by omega
        unfold wT at h1
        rw [if_pos h0.1, List.length_append] at h1
        have h2 : [w3 hd].length = 1 := rfl
        omega
      · rw [if_neg h0]
    rintro σ G2 ⟨p, rfl, s2, hp0, hpv⟩
    -- the further lines
    refine ⟨fun σ G => ∃ x3 : Option V, σ = [some (.str (S (Tx y hd))), some (.ref D), some (.ref p), x3, none] ∧ Same G1 G ∧ G p = some (.lst (acc y hd (wT y hd).length)), ?_, ?_⟩
    · refine ⟨_, rfl, _, rfl, D, _, rfl, .inl (.inl (s2 _ _ hD)), fun l hl => ?_⟩
      have hcut : cutV (qs.map V.ref) (some 1) none = (qs.drop 1).map V.ref := by
        have := cut_from (xs := qs.map V.ref) (k := 1)
        rw [← List.map_drop] at this
        exact this
      rw [hcut]
      have sl := sNew (o := .lst ((qs.drop 1).map V.ref)) hl
      have hpl : p ≠ l := ne_of_none hpv hl
      refine ⟨l, rfl, ⟨_, .inl (.inl upd_same)⟩, for_list (K := K) (a := l) (xs := (qs.drop 1).map V.ref) (fun kk σ G => ∃ x3 : Option V, σ = [some (.str (S (Tx y hd))), some (.ref D), some (.ref p), x3, none] ∧ Same G1 G ∧ G l = some (.lst ((qs.drop 1).map V.ref)) ∧ G p = some (.lst (acc y hd kk)))
        ⟨_, rfl, s2.trans sl, upd_same, sl _ _ hpv⟩ (fun kk σ G _ ⟨_, _, _, hl2, _⟩ => .inl (.inl hl2)) ?_ ?_⟩
      · rintro kk z σ G hz ⟨x3, rfl, sg, hl2, hpk⟩
        rw [List.getElem?_map, List.getElem?_drop] at hz
        cases ew : (WW y hd)[1 + kk]? with
        | none =>
          have h1 := List.getElem?_eq_none_iff.mp ew
          rw [List.getElem?_eq_none_iff.mpr (show qs.length ≤ 1 + kk by omega)] at hz
          cases hz
        | some wd =>
        obtain ⟨q, hq, _, hqw⟩ := hqs _ _ ew
        rw [hq] at hz
        have hz := (Option.some.inj hz).symm
        subst hz
        have hqw2 := sg _ _ hqw
        have ew2 : (wT y hd)[kk]? = some wd := by
          have : (WW y hd)[1 + kk]? = (wT y hd)[kk]? := by
            rw [Nat.add_comm]
            rfl
          rw [← this]
          exact ew
        have hkk := (List.getElem?_eq_some_iff.mp ew2).1
        -- which line it is
        have hcase : (wd = w2 y ∧ 0 < y.E ∧ kk = 0) ∨ (wd = w3 hd ∧ 0 ≤ hd ∧ kk + 1 = (wT y hd).length ∧ (0 < y.E → kk = 1)) := by
          unfold wT at ew2 ⊢
          by_cases hE : 0 < y.E
          · rw [if_pos hE] at ew2 ⊢
            by_cases h0 : 0 ≤ hd
            · rw [if_pos h0] at ew2 ⊢
              match kk, ew2 with
              | 0, e => exact .inl ⟨(Option.some.inj e).symm, hE, rfl⟩
              | 1, e => exact .inr ⟨(Option.some.inj e).symm, h0, rfl, fun _ => rfl⟩
              | k + 2, e => simp at e
            · rw [if_neg h0] at ew2 ⊢
              match kk, ew2 with
              | 0, e => exact .inl ⟨(Option.some.inj e).symm, hE, rfl⟩
              | k + 1, e => simp at e
          · rw [if_neg hE] at ew2 ⊢
            by_cases h0 : 0 ≤ hd
            · rw [if_pos h0] at ew2 ⊢
              match kk, ew2 with
              | 0, e => exact .inr ⟨(Option.some.inj e).symm, h0, rfl, fun z => absurd z hE⟩
              | k + 1, e => simp at e
            · rw [if_neg h0] at ew2
              simp at ew2
        have hqp : q ≠ p := ne_of_none hqw hp0
        have hlen5 : ∀ k, (acc y hd k).length = 5 := fun _ => rfl
        rcases hcase with ⟨rfl, hE, rfl⟩ | ⟨rfl, h0, hkl, hk1⟩
        · refine ⟨_, rfl, q, _, 0, vS kEx, rfl, rfl, .inl (.inl hqw2), rfl, rfl, _, rfl, ?_⟩
          rw [lit_head, show (vS kEx : V) = V.str (S kEx) from rfl, dec_S]
          refine (if_neg (by decide)).mpr ?_
          refine ⟨_, rfl, q, _, 1, vS (TL.numL y.E), rfl, rfl, .inl (.inl hqw2), rfl, S (TL.numL y.E), ((y.E : Nat) : Int), rfl, int_n bE, by rw [S_len]; omega, _, rfl, p, _, _, 2, rfl, rfl, hpk, by rfl, ?_⟩
          refine ⟨_, rfl, q, _, 3, vS (TL.numL y.X), rfl, rfl, .inl (.inl (by rw [upd_ne hqp]; exact hqw2)), rfl, S (TL.numL y.X), ((y.X : Nat) : Int), rfl, int_n bX, by rw [S_len]; omega, _, rfl, p, _, _, 3, rfl, rfl, upd_same, by rfl, ?_⟩
          refine ⟨_, rfl, fun b o e => ?_, by rw [upd_ne hpl.symm, upd_ne hpl.symm]; exact hl2, ?_⟩
          · have hbp : b ≠ p := ne_of_none e hp0
            rw [upd_ne hbp, upd_ne hbp]
            exact sg b o e
          · rw [upd_same]
            have hl1 : 1 ≤ (wT y hd).length := hkk
            have i1 : ∀ v : Int, (if 0 < y.E ∧ 1 ≤ 0 then v else 0) = 0 := fun v => if_neg (fun z => by have := z.2; omega)
            have i2 : ∀ v : Int, (if 0 < y.E ∧ 1 ≤ 0 + 1 then v else 0) = v := fun v => if_pos ⟨hE, by omega⟩
            have i3 : (if 0 ≤ hd ∧ (wT y hd).length ≤ 0 then hd else -1) = -1 := if_neg (fun z => by have := z.2; omega)
            have i4 : (if 0 ≤ hd ∧ (wT y hd).length ≤ 0 + 1 then hd else -1) = -1 := by
              by_cases h0 : 0 ≤ hd
              · have h2 : (wT y hd).length = 2 := by unfold wT; rw [if_pos hE, if_pos h0]; rfl
                exact if_neg (fun z => by have := z.2; omega)
              · exact if_neg (fun z => h0 z.1)
            unfold acc
            rw [i1, i1, i2, i2, i3, i4]
            rfl
        · refine ⟨_, rfl, q, _, 0, vS kHd, rfl, rfl, .inl (.inl hqw2), rfl, rfl, _, rfl, ?_⟩
          rw [lit_head, show (vS kHd : V) = V.str (S kHd) from rfl, dec_S]
          refine (if_pos (by decide)).mpr ?_
          have ehd : ((hd.toNat : Nat) : Int) = hd := by omega
          refine ⟨_, rfl, q, _, 1, vS (TL.numL hd.toNat), rfl, rfl, .inl (.inl hqw2), rfl, S (TL.numL hd.toNat), ((hd.toNat : Nat) : Int), rfl, int_n bH, by rw [S_len]; omega, _, rfl, p, _, _, 4, rfl, rfl, hpk, by rfl, ?_⟩
          refine ⟨_, rfl, fun b o e => ?_, by rw [upd_ne hpl.symm]; exact hl2, ?_⟩
          · have hbp : b ≠ p := ne_of_none e hp0
            rw [upd_ne hbp]
            exact sg b o e
          · rw [upd_same, ehd]
            have i3 : (if 0 ≤ hd ∧ (wT y hd).length ≤ kk + 1 then hd else -1) = hd := if_pos ⟨h0, by omega⟩
            unfold acc
            rw [i3]
            by_cases hE : 0 < y.E
            · have := hk1 hE
              have i1 : ∀ v : Int, (if 0 < y.E ∧ 1 ≤ kk then v else 0) = v := fun v => if_pos ⟨hE, by omega⟩
              have i2 : ∀ v : Int, (if 0 < y.E ∧ 1 ≤ kk + 1 then v else 0) = v := fun v => if_pos ⟨hE, by omega⟩
              rw [i1, i1, i2, i2]
              rfl
            · have i1 : ∀ v : Int, (if 0 < y.E ∧ 1 ≤ kk then v else 0) = 0 := fun v => if_neg (fun z => hE z.1)
              have i2 : ∀ v : Int, (if 0 < y.E ∧ 1 ≤ kk + 1 then v else 0) = 0 := fun v => if_neg (fun z => hE z.1)
              rw [i1, i1, i2, i2]
              rfl
      · rintro σ G ⟨x3, rfl, sg, hl2, hpk⟩
        have e : ((qs.drop 1).map V.ref).length = (wT y hd).length := by
          rw [List.length_map, List.length_drop, hql]
          rfl
        rw [e] at hpk
        exact ⟨_, rfl, sg, hpk⟩
    rintro σ G3 ⟨x3, rfl, s3, hp3⟩
    refine ⟨_, rfl, k p G3 (s1.trans s3) ?_⟩
    rw [hp3]
    unfold acc paV
    have hE1 : (if 0 < y.E ∧ 1 ≤ (wT y hd).length then (y.E : Int) else 0) = y.E := by
      by_cases hE : 0 < y.E
      · rw [if_pos ⟨hE, by unfold wT; rw [if_pos hE, List.length_append]; show 1 ≤ 1 + _; omega⟩]
      · rw [if_neg (fun z => hE z.1)]; omega
    have hX1 : (if 0 < y.E ∧ 1 ≤ (wT y hd).length then (y.X : Int) else 0) = y.X := by
      by_cases hE : 0 < y.E
      · rw [if_pos ⟨hE, by unfold wT; rw [if_pos hE, List.length_append]; show 1 ≤ 1 + _; omega⟩]
      · rw [if_neg (fun z => hE z.1)]
        have := hp.x0 hE
        omega
    have hH1 : (if 0 ≤ hd ∧ (wT y hd).length ≤ (wT y hd).length then hd else -1) = hd := by
      by_cases h0 : 0 ≤ hd
      · rw [if_pos ⟨h0, Nat.le_refl _⟩]
      · rw [if_neg (fun z => h0 z.1)]; omega
    rw [hE1, hX1, hH1]
end
end Wq
set_option Elab.async false
set_option linter.all false
set_option maxRecDepth 100000
set_option maxHeartbeats 4000000
namespace Wq
open PySem PySem.Spec PyProof.Rows L2
open SX (S S_len S_cat S_beq_eq)
theorem vals_at : ∀ (xs : List V) (us : List Value), xs.length = us.length → (∀ (j : Nat) (x : V) (u : Value), xs[j]? = some x → us[j]? = some u → RelV x u) → Vals xs us
  | [], [], _, _ => .nil
  | [], u :: us, h, _ => by cases h
  | x :: xs, [], h, _ => by cases h
  | x :: xs, u :: us, h, hk => .cons (hk 0 x u rfl rfl) (vals_at xs us (Nat.succ.inj h) fun j a b ha hb => hk (j + 1) a b (by simpa using ha) (by simpa using hb))
/-- the signs of a text, as a list -/
theorem call_listS {X : Cx} (hc : X.calm = true) : CallR X (.type "list") (fun xs H Q => ∃ z : Str, xs = [.str z] ∧ z.length ≤ 1000 ∧ ∀ p, H p = none → Q (.ref p) (upd H p (.lst (z.cps.toList.map fun c => V.str ⟨#[c]⟩)))) := by
  intro pins s σ H xs us Q I r hh
  obtain ⟨z, rfl, hz, q⟩ := hh
  obtain ⟨u, rfl, ru⟩ := vals1 r
  obtain ⟨t, rfl⟩ := ru
  have hzl : z.cps.size ≤ 1000 := hz
  refine call_list_str (I.ok.hd hc) z t (hn := by rw [sizeLine_eq]; omega) fun h' tk ac c' kp e hac => ?_
  have hlen : (z.cps.toList.map fun c => V.str ⟨#[c]⟩).length = ac.toList.length := by
    rw [List.length_map, Array.length_toList, Array.length_toList, hac.1]
  have hv : Vals (z.cps.toList.map fun c => V.str ⟨#[c]⟩) ac.toList := by
    refine vals_at _ _ hlen fun j x v hx hv => ?_
    obtain ⟨c, w, h1, h2⟩ := hac.2 j v (by rw [← Array.getElem?_toList]; exact hv)
    rw [List.getElem?_map, Array.getElem?_toList, h1] at hx
    have hx := (Option.some.inj hx).symm
    subst hx h2
    exact ⟨_, rfl⟩
  have hI := I.laid (t' := tk) (o := .lst (z.cps.toList.map fun c => V.str ⟨#[c]⟩)) kp (Nat.le_refl _)
    ⟨by rw [List.length_map, Array.length_toList, sizeLine_eq]; omega, ac.toList, c', hv, e⟩
  exact ⟨.ref s.heap.objs.size, _, hI, rfl, q _ (I.hok.fresh (Nat.le_refl _))⟩
theorem rep_S (c : Nat) (k : Nat) : (⟨(List.replicate k (S [c]).cps).foldl (· ++ ·) #[]⟩ : Str) = S (List.replicate k c) := by
  have h : ∀ (k : Nat) (a : List Nat), (List.replicate k (S [c]).cps).foldl (· ++ ·) a.toArray = (a ++ List.replicate k c).toArray := by
    intro k
    induction k with
    | zero => intro a; simp
    | succ k ih =>
      intro a
      rw [List.replicate_succ, List.foldl_cons, show a.toArray ++ (S [c]).cps = (a ++ [c]).toArray by simp [S], ih, List.replicate_succ]
      simp
  have := h k []
  rw [List.nil_append] at this
  show Str.mk _ = Str.mk _
  rw [this]
/-- a sign, many times -/
theorem op_sgn {X : Cx} : OpR X (binaryOp .Mult) (fun x y H Q => ∃ (c k : Nat), x = .str (S [c]) ∧ y = nI k ∧ 2 ≤ k ∧ k ≤ 1000 ∧ Q (.str (S (List.replicate k c))) H) := by
  intro pins s σ H x y v u Q I rx ry hh
  obtain ⟨c, k, rfl, rfl, k2, k9, q⟩ := hh
  obtain ⟨t, rfl⟩ := rx
  obtain ⟨t', rfl⟩ := ry
  have hl : (S [c]).length = 1 := S_len _
  refine PySem.P.mul_str ?_ (fun _ _ => ?_) (fun _ _ => ?_) ?_
  · rw [Bool.or_eq_false_iff]
    exact ⟨decide_eq_false (by omega), decide_eq_false (by omega)⟩
  · rw [hl]
    have hk : (1 : Int) ≤ (2 ^ 63 - 1) / (k : Int) := by
      rw [Int.le_ediv_iff_mul_le (by omega)]
      omega
    omega
  · rw [hl, show ((k : Nat) : Int).toNat = k by omega, Nat.one_mul]
    have hs := sizeLine_eq
    exact decide_eq_false (by omega)
  · rw [if_neg (by omega)]
    have e1 : (((k : Nat) : Int) == 1 || (S [c]).length == 0) = false := by
      rw [hl, Bool.or_eq_false_iff]
      exact ⟨beq_eq_false_iff_ne.mpr (by omega), rfl⟩
    rw [if_neg (by rw [e1]; decide), show ((k : Nat) : Int).toNat = k by omega, rep_S]
    refine ⟨?_, ⟨.str (S (List.replicate k c)), H, I.tok _, ⟨_, rfl⟩, q⟩⟩
    rw [S_len, List.length_replicate]
    have hs := sizeLine_eq
    omega
/-! words of any text -/
def lnb : List Nat → List (List Nat)
  | [] => [[]]
  | c :: r => if c = 32 then [] :: lnb r else
    match lnb r with
    | [] => [[c]]
    | l :: ls => (c :: l) :: ls
theorem lnb_ok : ∀ t, lnb t ≠ [] ∧ (∀ l ∈ lnb t, 32 ∉ l) ∧ TL.joinL [32] (lnb t) = t ∧ off (lnb t) = t.length + 1
  | [] => ⟨List.cons_ne_nil _ _, fun l h => by rw [List.mem_singleton.mp h]; exact List.not_mem_nil, rfl, rfl⟩
  | c :: r => by
    obtain ⟨h1, h2, h3, h4⟩ := lnb_ok r
    unfold lnb
    by_cases e : c = 32
    · rw [if_pos e]
      refine ⟨List.cons_ne_nil _ _, fun l hl => ?_, ?_, ?_⟩
      · rcases List.mem_cons.mp hl with z | z
        · rw [z]; exact List.not_mem_nil
        · exact h2 l z
      · cases el : lnb r with
        | nil => exact absurd el h1
        | cons m ms =>
          rw [jb_two, ← el, h3, e]
          rfl
      · show (0 + 1) + off (lnb r) = r.length + 1 + 1
        omega
    · rw [if_neg e]
      cases el : lnb r with
      | nil => exact absurd el h1
      | cons m ms =>
        rw [el] at h2 h3 h4
        refine ⟨List.cons_ne_nil _ _, fun l hl => ?_, ?_, ?_⟩
        · rcases List.mem_cons.mp hl with z | z
          · rw [z]
            intro hm
            rcases List.mem_cons.mp hm with y | y
            · exact e y.symm
            · exact h2 m List.mem_cons_self y
          · exact h2 l (List.mem_cons_of_mem _ z)
        · show TL.joinL [32] ((c :: m) :: ms) = c :: r
          rw [← h3]
          cases ms with
          | nil => rfl
          | cons x ms => rw [jb_two, jb_two]; rfl
        · have h4 : (m.length + 1) + off ms = r.length + 1 := h4
          show (m.length + 1 + 1) + off ms = r.length + 1 + 1
          omega
theorem split_sp {t : List Nat} : Txt.split (S t) (S [32]) = (lnb t).map S := by
  rw [SX.split_S (b := [32]) (by decide) (by decide)]
  obtain ⟨h1, h2, h3, _⟩ := lnb_ok t
  have := SX.spl_join (c := 32) (sep := []) h1 h2
  rw [h3] at this
  rw [this]
theorem off_app (a b : List (List Nat)) : off (a ++ b) = off a + off b := by
  unfold off
  rw [List.map_append, List.sum_append]
theorem off_lns : ∀ t, off (lns t) = t.length + 1
  | [] => rfl
  | c :: r => by
    have ih := off_lns r
    have h1 := (lns_ok r).1
    unfold lns
    by_cases e : c = 10
    · rw [if_pos e]
      show (0 + 1) + off (lns r) = r.length + 1 + 1
      omega
    · rw [if_neg e]
      cases el : lns r with
      | nil => exact absurd el h1
      | cons m ms =>
        rw [el] at ih
        have ih : (m.length + 1) + off ms = r.length + 1 := ih
        show (m.length + 1 + 1) + off ms = r.length + 1 + 1
        omega
theorem off_drop (L : List (List Nat)) (k : Nat) : off (L.drop k) ≤ off L := by
  have := off_app (L.take k) (L.drop k)
  rw [List.take_append_drop] at this
  omega
theorem off_rev (L : List (List Nat)) : off L.reverse = off L := by
  unfold off
  rw [List.map_reverse, List.sum_reverse]
theorem off_len (L : List (List Nat)) : L.length ≤ off L := by
  induction L with
  | nil => exact Nat.zero_le _
  | cons l r ih => show r.length + 1 ≤ (l.length + 1) + off r; omega
theorem off_sum (L : List (List Nat)) : ((L.map S).map (·.length)).sum + (L.map S).length * 1 = off L := by
  induction L with
  | nil => rfl
  | cons l r ih =>
    have ih : ((r.map S).map (·.length)).sum + (r.map S).length * 1 = off r := ih
    show ((S l).length + ((r.map S).map (·.length)).sum) + ((r.map S).length + 1) * 1 = (l.length + 1) + off r
    rw [S_len]
    omega
theorem joinL_off (c : Nat) : ∀ L : List (List Nat), (TL.joinL [c] L).length ≤ off L
  | [] => Nat.zero_le _
  | [l] => by show l.length ≤ (l.length + 1) + 0; omega
  | l :: m :: r => by
    have ih := joinL_off c (m :: r)
    rw [TL.joinL.eq_3, List.length_append, List.length_append]
    show l.length + (1 + _) ≤ (l.length + 1) + off (m :: r)
    omega
theorem off_set {L : List (List Nat)} {k : Nat} {x : List Nat} (hx : x.length ≤ 40) : off (L.set k x) ≤ off L + 40 := by
  induction L generalizing k with
  | nil => exact Nat.zero_le _
  | cons l r ih =>
    cases k with
    | zero => show (x.length + 1) + off r ≤ (l.length + 1) + off r + 40; omega
    | succ k =>
      have := ih (k := k)
      show (l.length + 1) + off (r.set k x) ≤ (l.length + 1) + off r + 40
      omega
theorem set_vS (L : List (List Nat)) (k : Nat) (x : List Nat) : (L.map vS).set k (vS x) = (L.set k x).map vS := by rw [List.map_set]
end Wq
set_option Elab.async false
set_option linter.all false
set_option maxRecDepth 100000
set_option maxHeartbeats 4000000
namespace Wq
open PySem PySem.Spec PyProof.Rows L2
open SX (S S_len S_cat S_beq_eq)
theorem Tx_60 {y : Ly} {hd : Int} (h : PaX y hd) : (Tx y hd).length ≤ 60 := by
  have ok := h.ok
  have h1 := num_len2 (show y.B < 100 by have := ok.b16; omega)
  have h2 := num_len2 (show y.E < 100 by have := ok.e; omega)
  have h3 := num_len2 (show y.X < 100 by have := ok.x; omega)
  have h4 := num_len2 (show hd.toNat < 100 by have := h.h64; omega)
  have h5 : (cBlk y.fr).length ≤ 15 := by cases y.fr <;> decide
  have l1 : cExc.length = 12 := rfl
  have l2 : cOf.length = 4 := rfl
  have l3 : cBits.length = 5 := rfl
  have l4 : cHead.length = 6 := rfl
  have h6 : (tEx y.E y.X).length ≤ 25 := by
    unfold tEx
    split
    · simp only [List.length_append]
      omega
    · exact Nat.zero_le _
  have h7 : (tHd hd).length ≤ 13 := by
    unfold tHd
    split
    · simp only [List.length_append]
      omega
    · exact Nat.zero_le _
  unfold Tx
  simp only [List.length_append]
  omega
abbrev sBt : Stmt := top 35
abbrev NBt : List Str := ["_law_pen_here", "_law_text", "_law_way", "_law_at", "_law_sign", "_law_lines", "_law_words"]
theorem scBt : FnScope NBt ["_law_pen_here", "_law_text"] (defScope sBt) := ⟨rfl, rfl, rfl, by decide +kernel, rfl, by decide +kernel, by decide +kernel⟩
def spBt : Sp := fun vs H Q _ => ∃ (p c : Addr) (m : Nat) (t : List Nat), vs = [.ref p, .str (S t)] ∧ PenAt H p c m ∧ m < 1000000 ∧ t.length ≤ 170 ∧
  ∀ (t' : List Nat) (G : Hp), t'.length ≤ 2 * t.length + 45 → Pn p c (m + 10) H G → Q (.str (S t')) G
def zSg : Str := " \n0123456789bcefhikoprstx-~"
theorem zSg_len : zSg.length = 27 := by decide +kernel
/-- the twelve words that may be put in -/
def wPut : List (List Nat) := [[48], [53], [49, 55], [48, 56], [50, 53], [54, 53], [49, 54, 48], List.replicate 40 57, [45, 49], kOf, kBits, []]
theorem wPut_len : ∀ x ∈ wPut, x.length ≤ 40 := by
  have h : wPut.all (fun x => decide (x.length ≤ 40)) = true := by decide +kernel
  exact fun x hx => of_decide_eq_true (List.all_eq_true.mp h x hx)
theorem wPut_is : ([V.str "0", V.str "5", V.str "17", V.str "08", V.str "25", V.str "65", V.str "160", V.str (S (List.replicate 40 57)), V.str "-1", V.str "of", V.str "bits", V.str ""] : List V) = wPut.map vS := by
  have e0 : ("0" : Str) = S [48] := by decide +kernel
  have e1 : ("5" : Str) = S [53] := by decide +kernel
  have e2 : ("17" : Str) = S [49, 55] := by decide +kernel
  have e3 : ("08" : Str) = S [48, 56] := by decide +kernel
  have e4 : ("25" : Str) = S [50, 53] := by decide +kernel
  have e5 : ("65" : Str) = S [54, 53] := by decide +kernel
  have e6 : ("160" : Str) = S [49, 54, 48] := by decide +kernel
  have e8 : ("-1" : Str) = S [45, 49] := by decide +kernel
  have e9 : ("of" : Str) = S kOf := by decide +kernel
  have e10 : ("bits" : Str) = S kBits := by decide +kernel
  have e11 : ("" : Str) = S [] := by decide +kernel
  rw [e0, e1, e2, e3, e4, e5, e6, e8, e9, e10, e11]
  rfl
theorem lit_9 : V.str "9" = V.str (S [57]) := congrArg V.str (show ("9" : Str) = S [57] by decide +kernel)
section
variable {P : Program} {w : World} {K : PySem.W.Frag} {mg : Str → Option Value} {base : Heap} {C CT : Addr}
theorem ok_Bt (D : DefAt K mg "_law_bent" sBt) (T : Txt K mg) (CD : Cl P w K mg base 1 "_law_draw" (spDraw K)) (CP : Cl P w K mg base 2 "_law_pick" (spPick K)) : Cl P w K mg base 3 "_law_bent" spBt := by
  refine cl_of D scBt (fun vs H Q E h => ?_) (fun _ _ _ _ _ _ us hl => match us, hl with | [_, _], _ => rfl) (fun f cdv A1 outer s H vs Q E hr h => ?_)
  · obtain ⟨p, c, m, t, rfl, _⟩ := h
    rfl
  · obtain ⟨p, c, m, t, rfl, hP, hm, htl, k⟩ := h
    refine ⟨_, pss_cons (ps_par (i := 2) (j := 3) (by rfl) scBt.nd rfl rfl (by decide) rfl rfl (pa_cons (pe_cl CD hr (by decide) rfl (pa_cons (pv 0) (pa_cons pe_int pa_nil))) (pa_cons (pe_cl CD hr (by decide) rfl (pa_cons (pv 0) (pa_cons (pe_op op_add (pe_callB call_len_str (by rfl) (by exact T.len) PySem.boot_len (pa_cons (pv 1) pa_nil)) pe_int) pa_nil))) pa_nil)) (by rfl))
(C8.pss_cut (ps_par (i := 4) (j := 5) (by rfl) scBt.nd rfl rfl (by decide) rfl rfl (pa_cons (pe_cl CP hr (by decide) rfl (pa_cons (pv 0) (pa_cons (pe_callTy (call_listS rfl) (by rfl) (by exact T.list) (by decide +kernel) (pa_cons pe_str pa_nil)) pa_nil))) (pa_cons (pe_split (pv 1) pe_str) pa_nil)) (by rfl))
(pss_cons (ps_if (pt_cmpR op_eq (pv 2) pe_int (nomark _))
(pss_one (ps_ret (pe_op op_add_str (pe_op op_add_str (pe_slice sl_str (pv 1) po_none (po_some (pv 3))) (pv 4)) (pe_slice sl_str (pv 1) (po_some (pv 3)) po_none))))
pss_nil)
(pss_cons (ps_if (pt_cmpR op_eq (pv 2) pe_int (nomark _))
(pss_one (ps_ret (pe_op op_add_str (pe_slice sl_str (pv 1) po_none (po_some (pv 3))) (pe_slice sl_str (pv 1) (po_some (pe_op op_add (pv 3) pe_int)) po_none))))
pss_nil)
(pss_cons (ps_if (pt_cmpR op_eq (pv 2) pe_int (nomark _))
(pss_one (ps_ret (pe_op op_add_str (pe_op op_add_str (pe_slice sl_str (pv 1) po_none (po_some (pv 3))) (pv 4)) (pe_slice sl_str (pv 1) (po_some (pe_op op_add (pv 3) pe_int)) po_none))))
pss_nil)
(pss_cons (ps_if (pt_cmpR op_eq (pv 2) pe_int (nomark _))
(pss_one (ps_ret (pe_slice sl_str (pv 1) po_none (po_some (pv 3)))))
pss_nil)
(pss_cons (ps_if (pt_cmpR op_eq (pv 2) pe_int (nomark _))
(pss_one (ps_ret (pe_join pe_str (pe_op op_cat (pv 5) (pe_slice sl_list (pv 5) (po_some (pe_cl CD hr (by decide) rfl (pa_cons (pv 0) (pa_cons (pe_callB call_len_seq (by rfl) (by exact T.len) PySem.boot_len (pa_cons (pv 5) pa_nil)) pa_nil)))) po_none)))))
pss_nil)
(pss_cons (ps_if (pt_cmpR op_eq (pv 2) pe_int (nomark _))
(pss_one (ps_ret (pe_join pe_str (pe_revL (pv 5)))))
pss_nil)
(pss_cons (ps_if (pt_cmpR op_eq (pv 2) pe_int (nomark _))
(pss_one (ps_ret (pe_join pe_str (pe_slice sl_list (pv 5) (po_some pe_int) po_none))))
pss_nil)
(pss_cons (ps_set (i := 6) scBt.nd rfl (Or.inl rfl) (pe_split (pv 1) pe_str))
(pss_cons (ps_set (i := 3) scBt.nd rfl (Or.inl rfl) (pe_cl CD hr (by decide) rfl (pa_cons (pv 0) (pa_cons (pe_callB call_len_seq (by rfl) (by exact T.len) PySem.boot_len (pa_cons (pv 6) pa_nil)) pa_nil))))
(pss_cons (ps_asg (pe_cl CP hr (by decide) rfl (pa_cons (pv 0) (pa_cons (pe_lst (pa_cons pe_str (pa_cons pe_str (pa_cons pe_str (pa_cons pe_str (pa_cons pe_str (pa_cons pe_str (pa_cons pe_str (pa_cons (pe_op op_sgn pe_str pe_int) (pa_cons pe_str (pa_cons pe_str (pa_cons pe_str (pa_cons pe_str pa_nil))))))))))))) pa_nil))) (pg_sub (pv 6) (pv 3) set_list))
(pss_one (ps_ret (pe_join pe_str (pv 6))))))))))))))), ?_⟩
    have hSt : (S t).length = t.length := S_len t
    have hzt : (S t).length ≤ sizeLine := by rw [hSt, sizeLine_eq]; omega
    have hz2 : (S t).length + 2 ≤ sizeLine := by rw [hSt, sizeLine_eq]; omega
    have hzS : ∀ a b : List Nat, a.length + b.length ≤ 1000 → (S a).length + (S b).length ≤ sizeLine := fun a b h => lenV h
    have ho := off_lns t
    refine ⟨_, rfl, p, c, m, 9, rfl, hP, by omega, by decide, log_ok (by decide) (by decide), fun v1 o1 a1 b1 hP1 => ⟨_, rfl, _, rfl, S t, rfl, hzt, _, _, rfl, rfl, p, c, m + 1, _, rfl, hP1, by omega, by omega, log_ok (by omega) (by omega), fun v2 o2 a2 b2 hP2 => ⟨_, _, rfl, ?_⟩⟩⟩
    obtain ⟨a, ha⟩ : ∃ a : Nat, v2 = (a : Int) := ⟨v2.toNat, by omega⟩
    subst ha
    have n2 := ((Pn.refl hP).draw hP1).draw hP2
    generalize upd (upd H p o1) p o2 = G2 at *
    refine ⟨fun σ G => ∃ (x : Nat) (l : Addr), σ = [some (.ref p), some (vS t), some (.int v1), some (.int (a : Int)), some (vS [x]), some (.ref l), none] ∧ Pn p c (m + 3) H G ∧ H l = none ∧ G l = some (.lst ((lns t).map vS)), ?_, ?_⟩
    · refine ⟨_, rfl, zSg, rfl, by rw [zSg_len]; decide, fun q hq => ?_⟩
      have n3 := n2.new (o := .lst (zSg.cps.toList.map fun c => V.str ⟨#[c]⟩)) hq
      have hzl : (zSg.cps.toList.map fun c => V.str ⟨#[c]⟩).length = 27 := by rw [List.length_map]; exact zSg_len
      refine ⟨p, c, m + 2, .ref q, _, rfl, n3.pen, .lst (.inl (.inl upd_same)), by omega, by omega, by omega, fun i v o hv hP3 => ?_⟩
      obtain ⟨x, rfl⟩ : ∃ x : Nat, v = vS [x] := by
        rw [List.getElem?_map] at hv
        cases e : zSg.cps.toList[i]? with
        | none => rw [e] at hv; cases hv
        | some x => rw [e] at hv; exact ⟨x, (Option.some.inj hv).symm⟩
      have n4 := n3.draw hP3
      refine ⟨_, rfl, ⟨_, rfl⟩, S t, S [10], rfl, congrArg (fun z => [z]) lit_n, by rfl, hz2, fun l hl => ?_⟩
      rw [split_n, map_vS]
      exact ⟨_, _, rfl, x, l, rfl, n4.new hl, n4.free hl, upd_same⟩
    rintro σ G3 ⟨x, l, rfl, n3, hl0, hl⟩
    have hLl : ((lns t).map vS).length = (lns t).length := List.length_map ..
    have hLn := lns_many (t := t)
    have c1 : cutS (S t) none (some ((a : Nat) : Int)) = S (t.take a) := cutS_to t a
    have c2 : cutS (S t) (some ((a : Nat) : Int)) none = S (t.drop a) := cutS_from t a
    have c3 : cutS (S t) (some ((a : Int) + 1)) none = S (t.drop (a + 1)) := cutS_from t (a + 1)
    have lt1 : (t.take a).length ≤ t.length := by rw [List.length_take]; omega
    have ld1 : (t.drop a).length ≤ t.length := by rw [List.length_drop]; omega
    have ld2 : (t.drop (a + 1)).length ≤ t.length := by rw [List.length_drop]; omega
    have lta : (t.take a).length + (t.drop a).length = t.length := by rw [← List.length_append, List.take_append_drop]
    have l1 : ([x] : List Nat).length = 1 := rfl
    have nF : Pn p c (m + 10) H G3 := n3.mono (by omega)
    have jn : ∀ (L : List (List Nat)) (s : Nat), (TL.joinL [s] L).length ≤ off L := fun L s => joinL_off s L
    -- 0
    refine ⟨_, rfl, rfl, _, rfl, ite2 (fun _ => ?_) (fun _ => ?_)⟩
    · refine ⟨_, rfl, _, rfl, _, rfl, S t, rfl, hzt, _, rfl, S (t.take a), S [x], congrArg V.str c1, rfl, hzS _ _ (by omega), _, rfl, _, rfl, _, rfl, S t, rfl, hzt, S (t.take a ++ [x]), S (t.drop a), catV _ _, congrArg V.str c2, hzS _ _ (by rw [List.length_append]; omega), ?_⟩
      have := k (t.take a ++ [x] ++ t.drop a) G3 (by simp only [List.length_append]; omega) nF
      rw [← catV] at this
      exact this
    -- 1
    refine ⟨_, rfl, rfl, _, rfl, ite2 (fun _ => ?_) (fun _ => ?_)⟩
    · refine ⟨_, rfl, _, rfl, _, rfl, S t, rfl, hzt, _, rfl, _, rfl, _, _, rfl, rfl, _, rfl, S t, rfl, hzt, S (t.take a), S (t.drop (a + 1)), congrArg V.str c1, congrArg V.str c3, hzS _ _ (by omega), ?_⟩
      have := k (t.take a ++ t.drop (a + 1)) G3 (by simp only [List.length_append]; omega) nF
      rw [← catV] at this
      exact this
    -- 2
    refine ⟨_, rfl, rfl, _, rfl, ite2 (fun _ => ?_) (fun _ => ?_)⟩
    · refine ⟨_, rfl, _, rfl, _, rfl, S t, rfl, hzt, _, rfl, S (t.take a), S [x], congrArg V.str c1, rfl, hzS _ _ (by omega), _, rfl, _, rfl, _, _, rfl, rfl, _, rfl, S t, rfl, hzt, S (t.take a ++ [x]), S (t.drop (a + 1)), catV _ _, congrArg V.str c3, hzS _ _ (by rw [List.length_append]; omega), ?_⟩
      have := k (t.take a ++ [x] ++ t.drop (a + 1)) G3 (by simp only [List.length_append]; omega) nF
      rw [← catV] at this
      exact this
    -- 3
    refine ⟨_, rfl, rfl, _, rfl, ite2 (fun _ => ?_) (fun _ => ?_)⟩
    · refine ⟨_, rfl, _, rfl, _, rfl, S t, rfl, hzt, ?_⟩
      rw [c1]
      exact k (t.take a) G3 (by omega) nF
    -- 4
    refine ⟨_, rfl, rfl, _, rfl, ite2 (fun _ => ?_) (fun _ => ?_)⟩
    · refine ⟨⟨_, rfl⟩, _, rfl, _, rfl, _, rfl, _, rfl, l, _, rfl, .inl (.inl (.inl hl)), p, c, m + 3, _, rfl, n3.pen, by omega, by have := List.length_pos_iff.mpr (lns_ok t).1; omega, log_ok (by have := List.length_pos_iff.mpr (lns_ok t).1; omega) (by omega), fun v o av bv hP4 => ?_⟩
      obtain ⟨b, hb⟩ : ∃ b : Nat, v = (b : Int) := ⟨v.toNat, by omega⟩
      subst hb
      have n4 := (Pn.refl n3.pen).draw hP4
      refine ⟨_, rfl, l, _, rfl, .inl (.inl (n4.lst hl)), fun q hq => ?_⟩
      have hcv : cutV ((lns t).map vS) (some (b : Int)) none = ((lns t).drop b).map vS := by rw [cut_from, ← List.map_drop]
      rw [hcv]
      have n5 := n4.new (o := .lst (((lns t).drop b).map vS)) hq
      have hod := off_drop (lns t) b
      refine ⟨l, q, _, _, rfl, rfl, n5.lst hl, upd_same, by rw [List.length_map, List.length_map, List.length_drop, sizeLine_eq]; omega, fun r hr' => ?_⟩
      have n6 := n5.new (o := .lst ((lns t).map vS ++ ((lns t).drop b).map vS)) hr'
      refine ⟨S [10], r, ((lns t) ++ (lns t).drop b).map S, lit_n, rfl, .inl (.inl (.inl (by rw [upd_same, map_vS, List.map_append]))), by rw [show (S [10]).length = 1 from S_len _, off_sum, off_app]; omega, ?_⟩
      rw [SX.join_S]
      exact k _ _ (by have := jn (lns t ++ (lns t).drop b) 10; rw [off_app] at this; omega) ((n3.trans n6).mono (by omega))
    -- 5
    refine ⟨_, rfl, rfl, _, rfl, ite2 (fun _ => ?_) (fun _ => ?_)⟩
    · refine ⟨⟨_, rfl⟩, _, rfl, l, _, rfl, .inl (.inl hl), fun r hr' => ?_⟩
      rw [← List.map_reverse]
      refine ⟨S [10], r, (lns t).reverse.map S, lit_n, rfl, .inl (.inl (.inl (by rw [upd_same, map_vS]))), by rw [show (S [10]).length = 1 from S_len _, off_sum, off_rev]; omega, ?_⟩
      rw [SX.join_S]
      exact k _ _ (by have := jn (lns t).reverse 10; rw [off_rev] at this; omega) ((n3.new hr').mono (by omega))
    -- 6
    refine ⟨_, rfl, rfl, _, rfl, ite2 (fun _ => ?_) (fun _ => ?_)⟩
    · refine ⟨⟨_, rfl⟩, _, rfl, _, rfl, l, _, rfl, .inl (.inl hl), fun r hr' => ?_⟩
      have hcv : cutV ((lns t).map vS) (some 1) none = ((lns t).drop 1).map vS := by
        have := cut_from (xs := (lns t).map vS) (k := 1)
        rw [← List.map_drop] at this
        exact this
      rw [hcv]
      have hod := off_drop (lns t) 1
      refine ⟨S [10], r, ((lns t).drop 1).map S, lit_n, rfl, .inl (.inl (.inl (by rw [upd_same, map_vS]))), by rw [show (S [10]).length = 1 from S_len _, off_sum]; omega, ?_⟩
      rw [SX.join_S]
      exact k _ _ (by have := jn ((lns t).drop 1) 10; omega) ((n3.new hr').mono (by omega))
    -- a word exchanged
    refine ⟨_, rfl, ⟨_, rfl⟩, S t, S [32], rfl, congrArg (fun z => [z]) lit_sp, by rfl, hz2, fun q hq => ?_⟩
    rw [split_sp, map_vS]
    obtain ⟨w1, _, _, w4⟩ := lnb_ok t
    have hwl := off_len (lnb t)
    have hwp := List.length_pos_iff.mpr w1
    have n4 := n3.new (o := .lst ((lnb t).map vS)) hq
    have hq0 := n3.free hq
    have hWl : ((lnb t).map vS).length = (lnb t).length := List.length_map ..
    refine ⟨_, rfl, _, rfl, q, _, rfl, .inl (.inl (.inl upd_same)), p, c, m + 3, _, rfl, n4.pen, by omega, by omega, log_ok (by omega) (by omega), fun v o av bv hP4 => ?_⟩
    obtain ⟨b, hb⟩ : ∃ b : Nat, v = (b : Int) := ⟨v.toNat, by omega⟩
    subst hb
    have n5 := (Pn.refl n4.pen).draw hP4
    have hq5 := n5.lst (q := q) upd_same
    refine ⟨_, rfl, 57, 40, lit_9, rfl, by decide, by decide, by show 12 ≤ sizeLine; decide, fun u hu => ?_⟩
    have n6 := n5.new (o := .lst [V.str "0", V.str "5", V.str "17", V.str "08", V.str "25", V.str "65", V.str "160", V.str (S (List.replicate 40 57)), V.str "-1", V.str "of", V.str "bits", V.str ""]) hu
    refine ⟨p, c, m + 4, .ref u, _, rfl, n6.pen, .lst (.inl (.inl upd_same)), by omega, Nat.succ_pos _, (by show 12 < 1073741824; decide), fun i v o hv hP6 => ?_⟩
    obtain ⟨x', hx', rfl⟩ : ∃ x' ∈ wPut, v = vS x' := by
      have hv : (wPut.map vS)[i]? = some v := by rw [← wPut_is]; exact hv
      rw [List.getElem?_map] at hv
      cases e : wPut[i]? with
      | none => rw [e] at hv; cases hv
      | some x' => rw [e] at hv; exact ⟨x', List.mem_of_getElem? e, (Option.some.inj hv).symm⟩
    have hx40 := wPut_len x' hx'
    have n7 := n6.draw hP6
    have hq7 := n7.lst (q := q) upd_same
    have hbw : b < (lnb t).length := by omega
    refine ⟨_, rfl, _, rfl, q, _, (b : Int), b, rfl, rfl, hq7, ?_, ?_⟩
    · unfold ixN
      rw [if_pos (by omega), if_pos (by rw [hWl]; omega)]
      exact congrArg some (by omega)
    rw [set_vS]
    have hos := off_set (L := lnb t) (k := b) hx40
    refine ⟨⟨_, rfl⟩, _, rfl, S [32], q, ((lnb t).set b x').map S, lit_sp, rfl, .inl (.inl (.inl (by rw [upd_same, map_vS]))), by rw [show (S [32]).length = 1 from S_len _, off_sum]; omega, ?_⟩
    rw [SX.join_S]
    exact k _ _ (by have := jn ((lnb t).set b x') 32; omega) (((n3.new hq).trans n7).put hq0 |>.mono (by omega))
end
end Wq
set_option Elab.async false
set_option linter.all false
set_option maxRecDepth 100000
set_option maxHeartbeats 4000000
namespace Wq
open PySem PySem.Spec PyProof.Rows L2
open SX (S S_len S_cat S_beq_eq)
/-! an object is made where what is let out knows the slots -/
theorem make_at {X : Cx} {CX : CXT} {k : Nat} {f C : Addr} {fd : FuncData} {ps : List Str} {sp : Sp} {E : L2.St → XK} {pins : List (Addr × Obj)} {σ : L2.St} {H : Hp} {s : Shared} {Q : VK} {us : List Value} {vs : List V}
    (M : Mk X.K C f) (F : FnOk X.prog X.w X.K X.mg X.base CX k f fd ps sp)
    (hr : Room (k + 1) X.A) (hb : L2.Binds X.K fd ps []) (hx : PassesAt CX X σ (E σ))
    (I : L2.Inv X pins σ H s) (r : Vals vs us)
    (hs : ∀ x dx, H x = none → H dx = none → dx ≠ x → sp (.ref x :: vs) (upd (upd H dx (.own x)) x (.ins C dx [])) (fun v H2 => v = .non ∧ Q (.ref x) H2) (E σ)) :
    wpAny (model X.prog X.w) X.A (call (.ref C) us) (EP X pins σ Q) X.xe s := by
  have J := Inv.made (C := C) I
  have hs' := hs (s.heap.objs.size + 1) s.heap.objs.size (I.hok.fresh (Nat.le_succ _))
    (I.hok.fresh (Nat.le_refl _)) (Nat.ne_of_lt (Nat.lt_succ_self _))
  have rr : Vals (V.ref (s.heap.objs.size + 1) :: vs)
    (Value.ref (s.heap.objs.size + 1) :: us) := .cons rfl r
  have hlen : (Value.ref (s.heap.objs.size + 1) :: us ++ []).length = ps.length := by
    rw [List.append_nil]
    exact rr.length.symm.trans (F.len _ _ _ _ hs')
  have hbb := hb _ (Value.ref (s.heap.objs.size + 1) :: us) J.kIn hlen
  rw [List.append_nil] at hbb
  refine wpAny_call (make_map (f := f) I.kIn M.makes M.init (beq_iff_eq.mp M.fn) ?_)
  refine codeAny_mono (F.run _ X.stack _ _ ⟨Value.ref (s.heap.objs.size + 1) :: us, []⟩
    _ _ _ (E σ) (hr.make C us []) (J.env0.make C us []) hbb rr hs') fun z s' hz => ?_
  match z, hz with
  | .error e, hz => exact hx pins _ _ e s' J hz
  | .ok (.ret u), hz =>
    obtain ⟨v, G, J3, rv, ev, qq⟩ := J.after hz
    subst ev
    exact ⟨rv, ⟨V.ref (s.heap.objs.size + 1), G, J3, rfl, qq⟩⟩
def tMakeV (C : Addr) (sp : Sp) (E : L2.St → XK) (t : TA) : TE := fun σ H Q => t σ H fun vs H1 => ∀ x dx, H1 x = none → H1 dx = none → dx ≠ x →
  sp (.ref x :: vs) (upd (upd H1 dx (.own x)) x (.ins C dx [])) (fun v H2 => v = .non ∧ Q (.ref x) H2) (E σ)
theorem pe_makeV {X : Cx} {CX : CXT} {k : Nat} {f C : Addr} {fd : FuncData} {ps : List Str} {sp : Sp} {E : L2.St → XK} {x : Str} {p pos : Pos} {e : Expr} {es : List Expr} {t : TA}
    (M : Mk X.K C f) (F : FnOk X.prog X.w X.K X.mg X.base CX k f fd ps sp) (hr : Room (k + 1) X.A)
    (hg : Gl X x) (hm : X.mg x = some (.ref C)) (hb : L2.Binds X.K fd ps []) (hx : ∀ σ, PassesAt CX X σ (E σ)) (ha : PA X (e :: es) t)
    (hdb : (x == ("__debug__" : Str)) = false := by decide) (hst : starEach (e :: es) X.env = (false, eval e X.env) :: starEach es X.env := by rfl) (hpl : (backTo pos (starEach es X.env)).any (·.1) = false := by rfl) :
    PE X (.Call (.Name x p) (e :: es) [] pos) (tMakeV C sp E t) := by
  refine ⟨fun pins s σ H Q I hh => ?_⟩
  refine wpAny_Call_Name_kw (ld_glob I hg hm ?_ hdb)
  refine PySem.W.callWith_K (h₀ := X.base) I.ok.mod.kin M.kp (thn (ha.run pos pins s σ H _ I hh) fun us s1 z => ?_) hst hpl
  obtain ⟨vs, H1, I1, r, q⟩ := z
  exact ⟨I1.kIn, make_at M F hr hb (hx σ) I1 r q⟩
/-! the law's reading -/
abbrev sRd : Stmt := top 36
theorem scRd : FnScope ["_law_value", "_law_found", "_law_spot", "problem"] ["_law_value"] (defScope sRd) := ⟨rfl, rfl, rfl, by decide +kernel, rfl, by decide +kernel, by decide +kernel⟩
def spRd (K : PySem.W.Frag) (C : Addr) : Sp := fun vs H Q _ => ∃ v : V, vs = [v] ∧
  ((∃ t : List Nat, v = .str (S t) ∧ t.length ≤ 400 ∧ (∀ y hd, PaX y hd → t = Tx y hd → ∀ r a G, Same H G → LyT C G a y t → G r = some (.tup [.ref a, .non]) → Q (.ref r) G) ∧
    ∀ i c, ws 0 (lns t) = some (i, c) → ∀ r s G, Same H G → G r = some (.tup [.non, .ref s]) → G s = some (.tup [nI i, nI c]) → Q (.ref r) G) ∨
   ((∀ G, Same H G → NoStr K G v) ∧ ∀ r s G, Same H G → G r = some (.tup [.non, .ref s]) → G s = some (.tup [nI 1, nI 1]) → Q (.ref r) G))
def bRd (K : PySem.W.Frag) (C CT : Addr) (W : WX) : TS := fun D σ H => ∃ v : V, σ = [some v, some .non, some .non, none] ∧
  ((∃ t : List Nat, v = .str (S t) ∧ t.length ≤ 400 ∧ (∀ y hd, PaX y hd → t = Tx y hd → ∀ a G, Same H G → LyT C G a y t → D.nx [some v, some (.ref a), some .non, none] G) ∧
    ∀ i c, ws 0 (lns t) = some (i, c) → ∀ d G, Same H G → G d = some (.xd [("column", nI c), ("line", nI i)]) → W (.ref CT) (some d) σ G) ∨
   ((∀ G, Same H G → NoStr K G v) ∧ ∀ d G, Same H G → G d = some (.xd [("column", nI 1), ("line", nI 1)]) → W (.ref CT) (some d) σ G))
def cRd (CT : Addr) (a : Addr) (cls : Value) (d : Option Addr) : TS := fun D σ H => ∃ (dd : Addr) (x0 x1 x2 : Option V) (i c : Nat), cls = .ref CT ∧ d = some dd ∧ σ = [x0, x1, x2, some (.ref a)] ∧ H dd = some (.xd [("column", nI c), ("line", nI i)]) ∧
  ∀ s, H s = none → D.nx [x0, x1, some (.ref s), some (.ref a)] (upd H s (.tup [nI i, nI c]))
theorem made_same {H G : Hp} {x dx : Addr} {o1 o2 : HO} (hx : H x = none) (hd : H dx = none) (s : SameP x (upd (upd H dx o1) x o2) G) : Same H G := fun b o e => by
  have n1 : b ≠ x := ne_of_none e hx
  have n2 : b ≠ dx := ne_of_none e hd
  exact s b o (by rw [upd_ne n1, upd_ne n2]; exact e) n1
theorem made_same2 {H : Hp} {x dx : Addr} {o1 o2 : HO} (hx : H x = none) (hd : H dx = none) : Same H (upd (upd H dx o1) x o2) := made_same hx hd .refl
section
variable {P : Program} {w : World} {K : PySem.W.Frag} {mg : Str → Option Value} {base : Heap} {C CT fT : Addr} {f0 : Addr} {fd0 : FuncData}
theorem ok_Rd (D : DefAt K mg "_law_read" sRd) (TX : TxtL K mg C) (TE : TxtE K mg CT fT "BadText" "line" "column") (M0 : Mk K C f0) (G0 : FnOk P w K mg base (L2.CX P w) 5 f0 fd0 ["self", "text"] (spLI K C CT)) (b0 : L2.Binds K fd0 ["self", "text"] []) : Cl P w K mg base 7 "_law_read" (spRd K C) := by
  refine cl_of D scRd (fun vs H Q E h => ?_) (fun _ _ _ _ _ _ us hl => match us, hl with | [_], _ => rfl) (fun f cdv A outer s H vs Q E hr h => ?_)
  · obtain ⟨v, rfl, _⟩ := h
    rfl
  · obtain ⟨v, rfl, h⟩ := h
    refine ⟨_, pss_cons (ps_asg (pe_tup (pa_cons pe_non (pa_cons pe_non pa_nil))) (pg_tup (by rfl) (pgs_cons (pg_name (i := 1) scRd.nd rfl (Or.inl rfl)) (pgs_cons (pg_name (i := 2) scRd.nd rfl (Or.inl rfl)) pgs_nil))))
(pss_cons (ps_try_as (i := 3) (tb := fun W => bRd K C CT W) (ts := cRd CT) (Wout := fun _ _ _ _ => False) rfl rfl scRd.nd rfl rfl ⟨rfl, by decide, Or.inl TE.gC⟩ takes0
      (fun W pn xe tk _ => pss_pre (pss_one (ps_set (i := 1) scRd.nd rfl (Or.inl rfl) (pe_makeV M0 G0 (hr.mono (by decide)) rfl (by exact TX.gC) b0 (fun σ => passAt tk σ) (pa_cons (pv 0) pa_nil)))) (fun D σ H hb => ?_))
      (fun a oe cls d pn hz hf => pss_pre (pss_one (ps_set (i := 2) scRd.nd rfl (Or.inl rfl) (pe_tup (pa_cons (pe_xf TE.xf TE.n1 hz hf (pv 3)) (pa_cons (pe_xf TE.xf TE.n2 hz hf (pv 3)) pa_nil))))) (fun D σ H hb => ?_)))
(pss_one (ps_ret (pe_tup (pa_cons (pv 1) (pa_cons (pv 2) pa_nil)))))), ?_⟩
    · obtain ⟨v, rfl, hb⟩ := hb
      refine ⟨_, rfl, fun x dx hx hdx hne => ?_⟩
      have s0 : Same H (upd (upd H dx (.own x)) x (.ins C dx [])) := made_same2 hx hdx
      refine ⟨x, dx, v, rfl, upd_same, ?_⟩
      rcases hb with ⟨t, rfl, htl, k1, k2⟩ | ⟨hns, k2⟩
      · exact .inl ⟨t, rfl, htl, fun y hd hp e G sp hG => ⟨rfl, k1 y hd hp e x G (made_same hx hdx sp) ⟨dx, hG⟩⟩, fun i c hws d G hE => k2 i c hws d G (s0.trans hE.1) hE.2.2⟩
      · exact .inr ⟨hns _ s0, fun d G hE => k2 d G (s0.trans hE.1) hE.2.2⟩
    · obtain ⟨dd, x0, x1, x2, i, c, rfl, rfl, rfl, hd, kk⟩ := hb
      exact ⟨_, rfl, rfl, rfl, dd, _, _, rfl, hd, (by rfl), _, rfl, rfl, rfl, dd, _, _, rfl, hd, (by rfl), by show 2 ≤ sizeLine; decide, fun s hs => kk s hs⟩
    · refine ⟨by show 2 ≤ sizeLine; decide, fun p0 hp0 => ⟨p0, _, rfl, .inl (.inl upd_same), rfl, _, _, rfl, _, _, rfl, rfl, ?_⟩⟩
      have s0 := sNew (o := .tup [.non, .non]) hp0
      refine ⟨v, rfl, ?_⟩
      have out : ∀ (i c : Nat) (d : Addr) (G : Hp), Same (upd H p0 (.tup [.non, .non])) G → G d = some (.xd [("column", nI c), ("line", nI i)]) →
          (∀ r s G', Same H G' → G' r = some (.tup [.non, .ref s]) → G' s = some (.tup [nI i, nI c]) → Q (.ref r) G') → ∀ a, G a = none → ∀ s, G s = none → ∀ r, (upd G s (.tup [nI i, nI c])) r = none → Q (.ref r) (upd (upd G s (.tup [nI i, nI c])) r (.tup [.non, .ref s])) := fun i c d G sG hd kk a _ s hs r hr' => by
        have s1 := sNew (o := .tup [nI i, nI c]) hs
        have s2 := sNew (o := .tup [.non, .ref s]) hr'
        exact kk r s _ (s0.trans (sG.trans (s1.trans s2))) upd_same (s2 _ _ upd_same)
      rcases h with ⟨t, rfl, htl, k1, k2⟩ | ⟨hns, k2⟩
      · refine .inl ⟨t, rfl, htl, fun y hd hp e a G sG hG => ?_, fun i c hws d G sG hd => ?_⟩
        · refine ⟨_, rfl, _, rfl, by show 2 ≤ sizeLine; decide, fun r hr' => ?_⟩
          have s2 := sNew (o := .tup [.ref a, .non]) hr'
          exact k1 y hd hp e r a _ (s0.trans (sG.trans s2)) (hG.same s2) upd_same
        · refine ⟨true, TE.te, fun _ a ha => ⟨d, _, _, _, i, c, rfl, rfl, rfl, hd, fun s hs => ?_⟩, fun z => by cases z⟩
          refine ⟨_, rfl, _, rfl, by show 2 ≤ sizeLine; decide, fun r hr' => ?_⟩
          exact out i c d G sG hd (k2 i c hws) a ha s hs r hr'
      · refine .inr ⟨fun G sG => hns G (s0.trans sG), fun d G sG hd => ?_⟩
        refine ⟨true, TE.te, fun _ a ha => ⟨d, _, _, _, 1, 1, rfl, rfl, rfl, hd, fun s hs => ?_⟩, fun z => by cases z⟩
        refine ⟨_, rfl, _, rfl, by show 2 ≤ sizeLine; decide, fun r hr' => ?_⟩
        exact out 1 1 d G sG hd k2 a ha s hs r hr'
end
end Wq
set_option Elab.async false
set_option linter.all false
set_option maxRecDepth 100000
set_option maxHeartbeats 4000000
namespace Wq
open PySem PySem.Spec PyProof.Rows L2
open SX (S S_len S_cat S_beq_eq)
/-- lists joined, apart from the dict of modules -/
theorem op_catN {X : Cx} : OpR X (binaryOp .Add) (fun x y H Q => ∃ (a b : Addr) (us ws : List V), x = .ref a ∧ y = .ref b ∧ H a = some (.lst us) ∧ H b = some (.lst ws) ∧ us.length + ws.length ≤ 1000 ∧ ∀ p, H p = none → p ≠ sysModules → Q (.ref p) (upd H p (.lst (us ++ ws)))) := by
  intro pins s σ H x y u v Q I rx ry hh
  obtain ⟨a, b, us, ws, rfl, rfl, ha, hb, hz, q⟩ := hh
  cases rx
  cases ry
  obtain ⟨_, i1, _, r1, l1, e1⟩ := I.lstM ha
  obtain ⟨_, i2, _, r2, l2, e2⟩ := I.lstM hb
  have hs := sizeLine_eq
  refine PySem.P.add_list e1 e2 ?_ (by rw [List.size_toArray, List.size_toArray]; omega)
  rw [show i1.toArray ++ i2.toArray = (i1 ++ i2).toArray by simp]
  exact ⟨.ref s.heap.objs.size, _, I.lnew (t' := s.toks) (r1.append r2) (by rw [List.length_append]; omega), rfl, q _ I.fresh (Nat.ne_of_gt I.big)⟩
theorem ws_right {y : Ly} {hd : Int} (h : PaX y hd) : ws 0 (lns (Tx y hd)) = none := by
  rcases right_or (t := Tx y hd) with ⟨e, _⟩ | ⟨i, c, _, PP, W⟩
  · exact e
  · exfalso
    have h1 := W.all y.fr (exB y) (heB hd)
    rw [← rf_pr, rf_right h.toPaOk] at h1
    have h2 := W.le
    have h1 : (Tx y hd).length + 1 ≤ PP := h1
    omega
theorem wrong_right {y : Ly} {hd : Int} (h : PaX y hd) {i c : Nat} (e : ws 0 (lns (Tx y hd)) = some (i, c)) : False := by
  rw [ws_right h] at e
  cases e
/-! one more layout of a right text -/
theorem make_right {K : PySem.W.Frag} {C CT : Addr} {y : Ly} {hd : Int} {H : Hp} {Q : VK} {E : XK} (hp : PaX y hd) {x dx : Addr} (hx : H x = none) (hdx : H dx = none) (k : ∀ G, Same H G → LyT C G x y (Tx y hd) → Q (.ref x) G)
    (hinj : ∀ y' hd', PaX y' hd' → Tx y hd = Tx y' hd' → y' = y) : spLI K C CT [.ref x, .str (S (Tx y hd))] (upd (upd H dx (.own x)) x (.ins C dx [])) (fun v G => v = .non ∧ Q (.ref x) G) E := by
  have hl := Tx_60 hp
  refine ⟨x, dx, _, rfl, upd_same, .inl ⟨Tx y hd, rfl, by omega, fun y' hd' hp' e G sp hG => ⟨rfl, ?_⟩, fun i c hws => (wrong_right hp hws).elim⟩⟩
  have := hinj y' hd' hp' e
  subst this
  exact k G (made_same hx hdx sp) ⟨dx, hG⟩
/-- a text tells its layout -/
theorem Tx_inj {y z : Ly} {hd he : Int} (hp : PaX y hd) (hq : PaX z he) (e : Tx y hd = Tx z he) : z = y := by
  have h1 := rf_right hp.toPaOk
  have hw := (wT y hd)
  have e1 := lns_tx hp
  have e2 := lns_tx hq
  rw [e] at e1
  have e3 : (WW y hd).map jb = (WW z he).map jb := e1.symm.trans e2
  have e4 : WW y hd = WW z he := by
    have inj : ∀ (L M : List (List (List Nat))), (∀ w ∈ L, w ≠ [] ∧ ∀ p ∈ w, 32 ∉ p) → (∀ w ∈ M, w ≠ [] ∧ ∀ p ∈ w, 32 ∉ p) → L.map jb = M.map jb → L = M := by
      intro L
      induction L with
      | nil => intro M _ _ h; cases M with
        | nil => rfl
        | cons m M => cases h
      | cons l L ih =>
        intro M h1 h2 h
        cases M with
        | nil => cases h
        | cons m M =>
          have ha := (List.cons.inj h).1
          have hb := (List.cons.inj h).2
          obtain ⟨a1, a2⟩ := h1 l List.mem_cons_self
          obtain ⟨b1, b2⟩ := h2 m List.mem_cons_self
          have c1 : TL.spl [32] 0 [] (jb l) = l := SX.spl_join (c := 32) (sep := []) a1 a2
          have c2 : TL.spl [32] 0 [] (jb m) = m := SX.spl_join (c := 32) (sep := []) b1 b2
          rw [ha, c2] at c1
          rw [c1, ih M (fun w hw => h1 w (List.mem_cons_of_mem _ hw)) (fun w hw => h2 w (List.mem_cons_of_mem _ hw)) hb]
    exact inj _ _ (fun w hw => ⟨(ww_no hp w hw).1, (ww_no hp w hw).2.1⟩) (fun w hw => ⟨(ww_no hq w hw).1, (ww_no hq w hw).2.1⟩) e3
  have e5 : w1 y = w1 z := (List.cons.inj e4).1
  have e6 : wT y hd = wT z he := (List.cons.inj e4).2
  have hB : y.fr = z.fr ∧ y.B = z.B := by
    unfold w1 at e5
    cases hy : y.fr <;> cases hz : z.fr <;> rw [hy, hz] at e5
    · have := (List.cons.inj (List.cons.inj (List.cons.inj e5).2).2).1
      exact ⟨rfl, TL.numL_inj this⟩
    · exact absurd (List.cons.inj (List.cons.inj e5).2).1 (by decide)
    · exact absurd (List.cons.inj (List.cons.inj e5).2).1 (by decide)
    · have := (List.cons.inj (List.cons.inj (List.cons.inj (List.cons.inj e5).2).2).2).1
      exact ⟨rfl, TL.numL_inj this⟩
  have hne : ∀ (a : Ly) (h : Int), w2 a ≠ w3 h := fun a h z => absurd (List.cons.inj z).1 (by decide)
  have hEX : y.E = z.E ∧ y.X = z.X ∧ (if 0 ≤ hd then [w3 hd] else []) = (if 0 ≤ he then [w3 he] else []) := by
    unfold wT at e6
    by_cases hE : 0 < y.E
    · by_cases hE' : 0 < z.E
      · rw [if_pos hE, if_pos hE'] at e6
        have a1 := (List.cons.inj e6).1
        have a2 := (List.cons.inj e6).2
        have b1 := (List.cons.inj (List.cons.inj a1).2).1
        have b2 := (List.cons.inj (List.cons.inj (List.cons.inj (List.cons.inj a1).2).2).2).1
        exact ⟨TL.numL_inj b1, TL.numL_inj b2, a2⟩
      · rw [if_pos hE, if_neg hE'] at e6
        exfalso
        by_cases h : 0 ≤ he
        · rw [if_pos h] at e6
          exact hne _ _ (List.cons.inj e6).1
        · rw [if_neg h] at e6
          cases e6
    · by_cases hE' : 0 < z.E
      · rw [if_neg hE, if_pos hE'] at e6
        exfalso
        by_cases h : 0 ≤ hd
        · rw [if_pos h] at e6
          exact hne _ _ (List.cons.inj e6).1.symm
        · rw [if_neg h] at e6
          cases e6
      · rw [if_neg hE, if_neg hE'] at e6
        have := hp.x0 hE
        have := hq.x0 hE'
        exact ⟨by omega, by omega, e6⟩
  have hH : y.H = z.H := by
    have a := hp.ho
    have b := hq.ho
    unfold HdOk at a b
    by_cases h : 0 ≤ hd
    · by_cases h' : 0 ≤ he
      · rw [if_pos h, if_pos h'] at hEX
        have := (List.cons.inj (List.cons.inj (List.cons.inj hEX.2.2).1).2).1
        have := TL.numL_inj this
        rw [if_neg (by omega)] at a b
        omega
      · rw [if_pos h, if_neg h'] at hEX
        cases hEX.2.2
    · by_cases h' : 0 ≤ he
      · rw [if_neg h, if_pos h'] at hEX
        cases hEX.2.2
      · rw [if_pos (by omega)] at a b
        omega
  cases y
  cases z
  simp only [Ly.mk.injEq]
  exact ⟨hB.1.symm, hB.2.symm, hEX.1.symm, hEX.2.1.symm, hH.symm⟩
/-! showing texts -/
theorem tx_128 {y : Ly} {hd : Int} (h : PaX y hd) : ∀ c ∈ Tx y hd, c < 128 := by
  have ok := h.ok
  have num : ∀ n, n < 100 → ∀ c ∈ TL.numL n, c < 128 := fun n hn c hc => by
    have := List.all_eq_true.mp (num_dig hn) c hc
    unfold isD at this
    simp at this
    omega
  have c0 : ∀ fr, ∀ c ∈ cBlk fr, c < 128 := by intro fr; cases fr <;> decide
  have c1 : ∀ c ∈ cExc, c < 128 := by decide
  have c2 : ∀ c ∈ cOf, c < 128 := by decide
  have c3 : ∀ c ∈ cBits, c < 128 := by decide
  have c4 : ∀ c ∈ cHead, c < 128 := by decide
  intro c hc
  unfold Tx at hc
  rcases List.mem_append.mp hc with z | hc
  · exact c0 _ c z
  rcases List.mem_append.mp hc with z | hc
  · exact num _ (by have := ok.b16; omega) c z
  rcases List.mem_append.mp hc with hc | hc
  · unfold tEx at hc
    split at hc
    · rcases List.mem_append.mp hc with z | hc
      · exact c1 c z
      rcases List.mem_append.mp hc with z | hc
      · exact num _ (by have := ok.e; omega) c z
      rcases List.mem_append.mp hc with z | hc
      · exact c2 c z
      rcases List.mem_append.mp hc with z | z
      · exact num _ (by have := ok.x; omega) c z
      · exact c3 c z
    · cases hc
  · unfold tHd at hc
    split at hc
    · rcases List.mem_append.mp hc with z | hc
      · exact c4 c z
      rcases List.mem_append.mp hc with z | z
      · exact num _ (by have := h.h64; omega) c z
      · exact c3 c z
    · cases hc
theorem rep_602 {y : Ly} {hd : Int} (h : PaX y hd) : (reprText (S (Tx y hd))).length ≤ 702 := by
  have e := StrLaws.reprText_len (S (Tx y hd)) (fun c hx => Nat.lt_of_lt_of_le (tx_128 h c (by rw [S_list] at hx; exact hx)) (by decide))
  have e2 : (S (Tx y hd)).length = (Tx y hd).length := S_len _
  have e3 := Tx_60 h
  omega
def dTold (y : Ly) (t : List Nat) : PyData := .list [.str (S t), .bool y.fr, .int y.B, .int y.E, .int y.X, .int y.H]
theorem dTold_ok {y : Ly} {hd : Int} (h : PaX y hd) : (dTold y (Tx y hd)).showable = true ∧ (dTold y (Tx y hd)).depth ≤ 60 ∧ (dTold y (Tx y hd)).shown.length ≤ sizeLine := by
  have ok := h.ok
  have sI : ∀ n : Nat, n < 1000 → (PyData.int (n : Int)).showable = true ∧ (PyData.int (n : Int)).shown.length ≤ 702 := fun n hn => by
    constructor
    · show decide (((n : Nat) : Int).natAbs.log2 < 1920) = true
      refine decide_eq_true ?_
      have h2 : ((n : Nat) : Int).natAbs.log2 < 30 := PySem.Flt.log2_lt_of (by decide) (by omega)
      omega
    · show (Str.ofString (toString ((n : Nat) : Int))).length ≤ 702
      rw [PySem.ofString_length]
      have := int_text_length_le10 (a := ((n : Nat) : Int)) (k := 3) (by decide) (by omega)
      omega
  obtain ⟨a1, a2⟩ := sI y.B (by have := ok.b16; omega)
  obtain ⟨b1, b2⟩ := sI y.E (by have := ok.e; omega)
  obtain ⟨c1, c2⟩ := sI y.X (by have := ok.x; omega)
  obtain ⟨d1, d2⟩ := sI y.H (by have := ok.h; omega)
  have hs := sizeLine_eq
  refine ⟨?_, ?_, ?_⟩
  · show ((PyData.str (S (Tx y hd))).showable && ((PyData.bool y.fr).showable && ((PyData.int y.B).showable && ((PyData.int y.E).showable && ((PyData.int y.X).showable && ((PyData.int y.H).showable && true)))))) = true
    rw [a1, b1, c1, d1]
    rfl
  · show max 0 (max 0 (max 0 (max 0 (max 0 (max 0 0))))) + 1 ≤ 60
    decide
  · show (listText [reprText (S (Tx y hd)), (PyData.bool y.fr).shown, (PyData.int y.B).shown, (PyData.int y.E).shown, (PyData.int y.X).shown, (PyData.int y.H).shown]).length ≤ sizeLine
    refine Nat.le_trans (listText_up (B := 702) fun t ht => ?_) (show 2 + 6 * (702 + 2) ≤ sizeLine by omega)
    simp only [List.mem_cons, List.not_mem_nil, or_false] at ht
    rcases ht with rfl | rfl | rfl | rfl | rfl | rfl
    · exact rep_602 h
    · cases y.fr <;> decide +kernel
    · exact a2
    · exact b2
    · exact c2
    · exact d2
end Wq
set_option Elab.async false
set_option linter.all false
set_option maxRecDepth 100000
set_option maxHeartbeats 8000000
namespace Wq
open PySem PySem.Spec PyProof.Rows L2
open SX (S S_len S_cat S_beq_eq)
def y8 : Ly := ⟨false, 8, 0, 0, 8⟩
theorem y8_ok : PaX y8 (-1) := ⟨⟨⟨by decide, by decide, by decide, by decide, by decide⟩, (fun z => absurd z (by decide)), by decide, by unfold HdOk; decide⟩, fun _ => rfl⟩
theorem lit_pl : V.str "blocks of 8" = V.str (S (Tx y8 (-1))) := congrArg V.str (show ("blocks of 8" : Str) = S (Tx y8 (-1)) by decide +kernel)
theorem eqL_comm (y z : Ly) : eqL y z = eqL z y := by
  have e : ∀ a b : Ly, eqL a b = ((a.fr == b.fr) && (((a.B : Int) == b.B) && (((a.E : Int) == b.E) && (((a.X : Int) == b.X) && (((a.H : Int) == b.H) && true))))) := fun a b => by
    unfold eqL f5
    simp only [PyData.eqvAll, PyData.eqv]
  have c : ∀ a b : Int, (a == b) = (b == a) := fun a b => by
    by_cases h : a = b
    · rw [h]
    · rw [beq_eq_false_iff_ne.mpr h, beq_eq_false_iff_ne.mpr fun z => h z.symm]
  rw [e, e, c (y.B : Int), c (y.E : Int), c (y.X : Int), c (y.H : Int)]
  cases y.fr <;> cases z.fr <;> rfl
theorem cut4 {y : Ly} {hd : Int} : cutV (paV y hd) none (some 4) = [.bl y.fr, nI y.B, nI y.E, nI y.X] := by
  have := cut_to (xs := paV y hd) (k := 4)
  exact this
theorem make_rN {K : PySem.W.Frag} {C CT : Addr} {y : Ly} {hd : Int} {H : Hp} {R : VK} {E : XK} (hp : PaX y hd) {x dx : Addr} (hx : H x = none) (hdx : H dx = none) (k : ∀ G, Same H G → LyT C G x y (Tx y hd) → R .non G) : spLI K C CT [.ref x, .str (S (Tx y hd))] (upd (upd H dx (.own x)) x (.ins C dx [])) R E := by
  have hl := Tx_60 hp
  refine ⟨x, dx, _, rfl, upd_same, .inl ⟨Tx y hd, rfl, by omega, fun y' hd' hp' e G sp hG => ?_, fun i c hws => (wrong_right hp hws).elim⟩⟩
  have := Tx_inj hp hp' e
  subst this
  exact k G (made_same hx hdx sp) ⟨dx, hG⟩
abbrev sTd : Stmt := top 37
abbrev NTd : List Str := ["_law_layout", "_law_text", "_law_parts_here", "_law_told"]
theorem scTd : FnScope NTd ["_law_layout", "_law_text"] (defScope sTd) := ⟨rfl, rfl, rfl, by decide +kernel, rfl, by decide +kernel, by decide +kernel⟩
def spTd (C : Addr) : Sp := fun vs H Q _ => ∃ (a : Addr) (y : Ly) (hd : Int), vs = [.ref a, .str (S (Tx y hd))] ∧ LyT C H a y (Tx y hd) ∧ PaX y hd ∧ (0 ≤ hd ∨ hd = -1) ∧ ∀ G, Same H G → Q (.bl true) G
abbrev sEr : Stmt := top 38
abbrev NEr : List Str := ["_law_one", "_law_other", "_law_mine", "_law_their", "_law_due"]
theorem scEr : FnScope NEr ["_law_one", "_law_other"] (defScope sEr) := ⟨rfl, rfl, rfl, by decide +kernel, rfl, by decide +kernel, by decide +kernel⟩
def spEr : Sp := fun vs H Q _ => ∃ (y z : Ly) (hd he : Int), vs = [.str (S (Tx y hd)), .str (S (Tx z he))] ∧ PaX y hd ∧ (0 ≤ hd ∨ hd = -1) ∧ PaX z he ∧ (0 ≤ he ∨ he = -1) ∧ ∀ G, Same H G → Q (.bl true) G
def spPL (C : Addr) : Sp := fun vs H Q _ => vs = [] ∧ ∀ a G, Same H G → LyT C G a y8 (Tx y8 (-1)) → Q (.ref a) G
theorem sh6 {K : PySem.W.Frag} {H : Hp} (y : Ly) (t : List Nat) : ShAll K H [.str (S t), .bl y.fr, nI y.B, nI y.E, nI y.X, nI y.H] [.str (S t), .bool y.fr, .int y.B, .int y.E, .int y.X, .int y.H] := .cons (.str _) (.cons (.bl _) (.cons (.int _) (.cons (.int _) (.cons (.int _) (.cons (.int _) .nil)))))
section
variable {P : Program} {w : World} {K : PySem.W.Frag} {mg : Str → Option Value} {base : Heap} {C CT fT : Addr} {f0 fE : Addr} {fd0 fdE : FuncData}
theorem ok_PL (D : DefAt K mg "plain_layout" sPL) (TX : TxtL K mg C) (M0 : Mk K C f0) (G0 : FnOk P w K mg base (L2.CX P w) 5 f0 fd0 ["self", "text"] (spLI K C CT)) (b0 : L2.Binds K fd0 ["self", "text"] []) : Cl P w K mg base 7 "plain_layout" (spPL C) := by
  refine cl_of D scPL (fun vs H Q E h => ?_) (fun _ _ _ _ _ _ us hl => match us, hl with | [], _ => rfl) (fun f cdv A1 outer s H vs Q E hr h => ?_)
  · obtain ⟨rfl, _⟩ := h
    rfl
  · obtain ⟨rfl, k⟩ := h
    refine ⟨_, pss_one (ps_ret (pe_make M0 G0 hr rfl (by exact TX.gC) b0 .nil passF (pa_cons pe_str pa_nil))), ?_⟩
    intro x dx hx hdx hne
    have := make_right (K := K) (C := C) (CT := CT) (E := EF) (Q := Q) y8_ok hx hdx (fun G s h => k x G s h) (fun y' hd' hp' e => Tx_inj y8_ok hp' e)
    rw [← lit_pl] at this
    exact this
theorem ok_Td {fa : Addr} {fd : FuncData} (F : Fun K "_law_is_told" "_law_is_told" sTd fa fd) (TX : TxtL K mg C) (CTP : Cl P w K mg base 1 "_law_text_parts" spTP) (CLh : Cl P w K mg base 1 "_law_head" (spLh K)) : FnG P w K mg base CX0 7 fa fd ["_law_layout", "_law_text"] (spTd C) := by
  obtain ⟨oc, od, kV, doc, pm, an, cdv, ct, osl, rfl, lk, hcd⟩ := F.ex
  refine fnG_of (k := 6) lk hcd scTd (fun vs H Q E h => ?_) (fun A1 hg outer s H vs Q E hr h => ?_)
  · obtain ⟨a, y, hd, rfl, _⟩ := h
    rfl
  · obtain ⟨a, y, hd, rfl, ha, hp, hn, k⟩ := h
    have hG : (A1.deeper (envOfC "_law_is_told" (defScope sTd) s.heap.objs.size fa cdv)).guards = some [] := hg
    refine ⟨_, PSs.nox (pss_cons (ps_set (i := 2) scTd.nd rfl (Or.inl rfl) (pe_cl CTP hr (by decide) rfl (pa_cons (pv 1) pa_nil)))
(pss_cons (ps_set (i := 3) scTd.nd rfl (Or.inl rfl) (pe_lstN (pa_cons (pe_fld (pv 0) rfl) (pa_cons (pe_fld (pv 0) rfl) (pa_cons (pe_fld (pv 0) rfl) (pa_cons (pe_fld (pv 0) rfl) (pa_cons (pe_fld (pv 0) rfl) (pa_cons (pe_fld (pv 0) rfl) pa_nil))))))))
(pss_one (ps_ret (pe_cmpR op_eq (pe_callB (call_repr hG (hu64 hr)) (by rfl) (by exact TX.repr) PyProof.Rows.boot_repr (pa_cons (pv 3) pa_nil)) (pe_callB (call_repr hG (hu64 hr)) (by rfl) (by exact TX.repr) PyProof.Rows.boot_repr (pa_cons (pe_op op_catN (pe_op op_cat (pe_lst (pa_cons (pv 1) pa_nil)) (pe_slice sl_list (pv 2) po_none (po_some pe_int))) (pe_lst (pa_cons (pe_cl CLh hr (by decide) rfl (pa_cons (pv 2) pa_nil)) pa_nil))) pa_nil)) (nomark _)))))), ?_⟩
    have dok := dTold_ok hp
    refine ⟨_, rfl, y, hd, rfl, hp, hn, fun q G s1 hq => ?_⟩
    obtain ⟨dx, ha1⟩ := ha.same s1
    refine ⟨_, rfl, a, C, dx, _, _, rfl, ha1, TX.cl, TX.nT, rfl, _, rfl, a, C, dx, _, _, rfl, ha1, TX.cl, TX.nF, rfl, _, rfl, a, C, dx, _, _, rfl, ha1, TX.cl, TX.nB, rfl, _, rfl, a, C, dx, _, _, rfl, ha1, TX.cl, TX.nE, rfl, _, rfl, a, C, dx, _, _, rfl, ha1, TX.cl, TX.nX, rfl, _, rfl, a, C, dx, _, _, rfl, ha1, TX.cl, TX.nH, rfl, by show 6 ≤ sizeLine; decide, fun p hp9 hpn => ?_⟩
    have s2 := sNew (o := .lst [.str (S (Tx y hd)), .bl y.fr, nI y.B, nI y.E, nI y.X, nI y.H]) hp9
    refine ⟨_, rfl, _, dTold y (Tx y hd), rfl, .lst (.inl (.inl upd_same)) hpn (sh6 y _), dok.1, dok.2.1, dok.2.2, ?_⟩
    refine ⟨_, rfl, by show 1 ≤ sizeLine; decide, fun e1 he1 => ?_⟩
    have s3 := sNew (o := .lst [.str (S (Tx y hd))]) he1
    refine ⟨_, rfl, _, rfl, q, _, rfl, .inl (.inl (s3 _ _ (s2 _ _ hq))), fun e2 he2 => ?_⟩
    rw [cut4]
    have s4 := sNew (o := .lst [.bl y.fr, nI y.B, nI y.E, nI y.X]) he2
    refine ⟨e1, e2, _, _, rfl, rfl, s4 _ _ upd_same, upd_same, by show 1 + 4 ≤ sizeLine; decide, fun e3 he3 => ?_⟩
    have s5 := sNew (o := .lst ([.str (S (Tx y hd))] ++ [.bl y.fr, nI y.B, nI y.E, nI y.X])) he3
    refine ⟨_, rfl, q, y, hd, rfl, .inl (.inl (s5 _ _ (s4 _ _ (s3 _ _ (s2 _ _ hq))))), hp.ho, by show 1 ≤ sizeLine; decide, fun e4 he4 => ?_⟩
    have s6 := sNew (o := .lst [nI y.H]) he4
    refine ⟨e3, e4, _, _, rfl, rfl, s6 _ _ upd_same, upd_same, by show 5 + 1 ≤ 1000; decide, fun e5 he5 hne => ?_⟩
    have s7 := sNew (o := .lst (([.str (S (Tx y hd))] ++ [.bl y.fr, nI y.B, nI y.E, nI y.X]) ++ [nI y.H])) he5
    refine ⟨_, dTold y (Tx y hd), rfl, .lst (.inl (.inl upd_same)) hne (sh6 y _), dok.1, dok.2.1, dok.2.2, rfl, ?_⟩
    have := k _ (s1.trans (s2.trans (s3.trans (s4.trans (s5.trans (s6.trans s7))))))
    rw [show (true : Bool) = decide (V.str (dTold y (Tx y hd)).shown = V.str (dTold y (Tx y hd)).shown) from (decide_eq_true rfl).symm] at this
    exact this
theorem ok_Er (D : DefAt K mg "_law_is_equal_right" sEr) (TX : TxtL K mg C) (M0 : Mk K C f0) (G0 : FnOk P w K mg base (L2.CX P w) 5 f0 fd0 ["self", "text"] (spLI K C CT)) (b0 : L2.Binds K fd0 ["self", "text"] []) (BE : EqC K C fE) (GE : FnOk P w K mg base CX0 2 fE fdE ["self", "other"] (spEQ C)) (bE : L2.Binds K fdE ["self", "other"] [])
    (CTP : Cl P w K mg base 1 "_law_text_parts" spTP) (CLh : Cl P w K mg base 1 "_law_head" (spLh K)) : Cl P w K mg base 7 "_law_is_equal_right" spEr := by
  refine cl_of D scEr (fun vs H Q E h => ?_) (fun _ _ _ _ _ _ us hl => match us, hl with | [_, _], _ => rfl) (fun f cdv A1 outer s H vs Q E hr h => ?_)
  · obtain ⟨y, z, hd, he, rfl, _⟩ := h
    rfl
  · obtain ⟨y, z, hd, he, rfl, hp, hn, hq, hm, k⟩ := h
    have r2 : Room 2 _ := hr.mono (by decide)
    have r3 : Room 3 _ := hr.mono (by decide)
    refine ⟨_, C8.pss_cut (ps_par (i := 2) (j := 3) (by rfl) scEr.nd rfl rfl (by decide) rfl rfl (pa_cons (pe_cl CTP hr (by decide) rfl (pa_cons (pv 0) pa_nil)) (pa_cons (pe_cl CTP hr (by decide) rfl (pa_cons (pv 1) pa_nil)) pa_nil)) (by rfl))
(C8.pss_cut (ps_set (i := 4) scEr.nd rfl (Or.inl rfl) (pe_cmpR (op_eqD (hu64 hr)) (pe_op op_cat (pe_slice sl_list (pv 2) po_none (po_some pe_int)) (pe_lst (pa_cons (pe_cl CLh hr (by decide) rfl (pa_cons (pv 2) pa_nil)) pa_nil))) (pe_op op_cat (pe_slice sl_list (pv 3) po_none (po_some pe_int)) (pe_lst (pa_cons (pe_cl CLh hr (by decide) rfl (pa_cons (pv 3) pa_nil)) pa_nil))) (nomark _)))
(pss_one (ps_ret (pe_and (pe_cmpR op_eq (pe_cmpR (op_eqO BE GE r2 bE pass0) (pe_make M0 G0 hr rfl (by exact TX.gC) b0 .nil passF (pa_cons (pv 0) pa_nil)) (pe_make M0 G0 hr rfl (by exact TX.gC) b0 .nil passF (pa_cons (pv 1) pa_nil)) (nomark _)) (pv 4) (nomark _)) (pe_one (pe_cmpR op_ne (pe_cmpR (op_neO BE GE r3 bE pass0) (pe_make M0 G0 hr rfl (by exact TX.gC) b0 .nil passF (pa_cons (pv 1) pa_nil)) (pe_make M0 G0 hr rfl (by exact TX.gC) b0 .nil passF (pa_cons (pv 0) pa_nil)) (nomark _)) (pv 4) (nomark _))))))), ?_⟩
    refine ⟨fun σ G => ∃ a b : Addr, σ = [some (.str (S (Tx y hd))), some (.str (S (Tx z he))), some (.ref a), some (.ref b), none] ∧ Same H G ∧ G a = some (.lst (paV y hd)) ∧ G b = some (.lst (paV z he)), ?_, ?_⟩
    · exact ⟨_, rfl, y, hd, rfl, hp, hn, fun a G s1 ha => ⟨_, rfl, z, he, rfl, hq, hm, fun b G2 s2 hb => ⟨_, _, rfl, a, b, rfl, s1.trans s2, s2 _ _ ha, hb⟩⟩⟩
    rintro σ G1 ⟨a, b, rfl, s1, ha, hb⟩
    refine ⟨fun σ G => σ = [some (.str (S (Tx y hd))), some (.str (S (Tx z he))), some (.ref a), some (.ref b), some (.bl (eqL y z))] ∧ Same H G, ?_, ?_⟩
    · refine ⟨_, rfl, _, rfl, a, _, rfl, .inl (.inl ha), fun e1 he1 => ?_⟩
      rw [cut4]
      have t1 := sNew (o := .lst [.bl y.fr, nI y.B, nI y.E, nI y.X]) he1
      refine ⟨_, rfl, a, y, hd, rfl, .inl (.inl (t1 _ _ ha)), hp.ho, by show 1 ≤ sizeLine; decide, fun e2 he2 => ?_⟩
      have t2 := sNew (o := .lst [nI y.H]) he2
      refine ⟨e1, e2, _, _, rfl, rfl, t2 _ _ upd_same, upd_same, by show 4 + 1 ≤ sizeLine; decide, fun e3 he3 => ?_⟩
      have t3 := sNew (o := .lst ([.bl y.fr, nI y.B, nI y.E, nI y.X] ++ [nI y.H])) he3
      have tA := t1.trans (t2.trans t3)
      refine ⟨_, rfl, _, rfl, b, _, rfl, .inl (.inl (tA _ _ hb)), fun g1 hg1 => ?_⟩
      rw [cut4]
      have u1 := sNew (o := .lst [.bl z.fr, nI z.B, nI z.E, nI z.X]) hg1
      refine ⟨_, rfl, b, z, he, rfl, .inl (.inl (u1 _ _ (tA _ _ hb))), hq.ho, by show 1 ≤ sizeLine; decide, fun g2 hg2 => ?_⟩
      have u2 := sNew (o := .lst [nI z.H]) hg2
      refine ⟨g1, g2, _, _, rfl, rfl, u2 _ _ upd_same, upd_same, by show 4 + 1 ≤ sizeLine; decide, fun g3 hg3 => ?_⟩
      have u3 := sNew (o := .lst ([.bl z.fr, nI z.B, nI z.E, nI z.X] ++ [nI z.H])) hg3
      have uA := u1.trans (u2.trans u3)
      refine ⟨.list (f5 y), .list (f5 z), .lst (.inl (.inl (uA _ _ upd_same))) (dp5 y), .lst (.inl (.inl upd_same)) (dp5 z), shp5L y, shp5L z, ?_⟩
      rw [eqL_l]
      exact ⟨rfl, s1.trans (tA.trans uA)⟩
    rintro σ G2 ⟨rfl, s2⟩
    have iy := fun y' hd' (hp' : PaX y' hd') e => Tx_inj hp hp' e
    have iz := fun y' hd' (hp' : PaX y' hd') e => Tx_inj hq hp' e
    refine ⟨_, rfl, fun x dx hx hdx hne => ?_⟩
    refine make_rN hp hx hdx (fun G3 s3 h3 => ⟨rfl, ?_⟩)
    refine ⟨_, rfl, fun x' dx' hx' hdx' hne' => ?_⟩
    refine make_rN hq hx' hdx' (fun G4 s4 h4 => ⟨rfl, ?_⟩)
    obtain ⟨d1, i1⟩ := h3.same s4
    obtain ⟨d2, i2⟩ := id h4
    refine ⟨x, d1, _, rfl, i1, .inl ⟨x', d2, _, rfl, i2⟩, x, y, Tx y hd, _, rfl, ⟨d1, i1⟩, .inl ⟨x', z, Tx z he, rfl, h4, fun G5 s5 => ?_⟩⟩
    refine ⟨_, rfl, rfl, _, rfl, ?_⟩
    refine (if_pos (by simp)).mpr ?_
    refine ⟨_, rfl, fun x dx hx hdx hne => ?_⟩
    refine make_rN hq hx hdx (fun G6 s6 h6 => ⟨rfl, ?_⟩)
    refine ⟨_, rfl, fun x' dx' hx' hdx' hne' => ?_⟩
    refine make_rN hp hx' hdx' (fun G7 s7 h7 => ⟨rfl, ?_⟩)
    obtain ⟨d1, i1⟩ := h6.same s7
    obtain ⟨d2, i2⟩ := id h7
    refine ⟨x, d1, _, rfl, i1, .inl ⟨x', d2, _, rfl, i2⟩, x, z, Tx z he, _, rfl, ⟨d1, i1⟩, .inl ⟨x', y, Tx y hd, rfl, h7, fun G8 s8 => ⟨_, rfl, ?_⟩⟩⟩
    refine ⟨_, rfl, rfl, ?_⟩
    have := k G8 (s2.trans (s3.trans (s4.trans (s5.trans (s6.trans (s7.trans s8))))))
    rw [eqL_comm z y]
    have e : (!decide (V.bl (!eqL y z) = V.bl (eqL y z))) = true := by cases eqL y z <;> rfl
    rw [← e] at this
    exact this
end
end Wq
set_option Elab.async false
set_option linter.all false
set_option maxRecDepth 100000
set_option maxHeartbeats 8000000
namespace Wq
open PySem PySem.Spec PyProof.Rows L2
open SX (S S_len S_cat S_beq_eq)
structure ClG (P : Program) (w : World) (K : PySem.W.Frag) (mg : Str → Option Value) (base : Heap) (k : Nat) (x : Str) (sp : Sp) : Prop where
  ex : ∃ (f : Addr) (fd : FuncData) (ps : List Str), FnG P w K mg base CX0 k f fd ps sp ∧ mg x = some (.ref f) ∧ PySem.W.keepIn K (.ref f) = true ∧ L2.Binds K fd ps []
section
variable {X : Cx} {k j : Nat} {x : Str} {sp : Sp} {p pos : Pos} {e : Expr} {es : List Expr} {t : TA}
theorem pe_clG (c : ClG X.prog X.w X.K X.mg X.base k x sp) (hr : Room j X.A) (hk : k ≤ j) (hG : X.A.guards = some []) (hg : Gl X x) (ha : PA X (e :: es) t)
    (hdb : (x == ("__debug__" : Str)) = false := by decide) (he : starEach (e :: es) X.env = (false, eval e X.env) :: starEach es X.env := by rfl) (hpl : (backTo pos (starEach es X.env)).any (·.1) = false := by rfl) :
    PE X (.Call (.Name x p) (e :: es) [] pos) (tCall sp [] E0 t) := by
  obtain ⟨f, fd, ps, F, hm, kp, b⟩ := c.ex
  exact pe_callG F (hr.mono hk) hG hg hm kp b .nil pass0 ha hdb he hpl
end
theorem nrm {y : Ly} {hd : Int} (h : PaX y hd) : ∃ he, PaX y he ∧ (0 ≤ he ∨ he = -1) ∧ Tx y hd = Tx y he := by
  by_cases h0 : 0 ≤ hd
  · exact ⟨hd, h, .inl h0, rfl⟩
  · have ho := h.ho
    refine ⟨-1, ⟨⟨h.ok, h.ex, by decide, ?_⟩, h.x0⟩, .inr rfl, ?_⟩
    · unfold HdOk at ho ⊢
      rw [if_pos (by omega)] at ho
      rw [if_pos (by decide)]
      exact ho
    · unfold Tx tHd
      rw [if_neg h0, if_neg (by decide)]
theorem nil_no {y : Ly} {hd : Int} (hp : PaX y hd) (e : [] = Tx y hd) : False := by
  have h1 := ws_right hp
  rw [← e] at h1
  revert h1
  decide +kernel
theorem nil_ws {i c : Nat} (h : ws 0 (lns []) = some (i, c)) : i = 1 ∧ c = 1 := by
  have h1 : ws 0 (lns []) = some (1, 1) := by decide +kernel
  rw [h1] at h
  cases h
  exact ⟨rfl, rfl⟩
theorem one_one : ¬ (!PyData.eqv (.tuple [.none, .tuple [.int 1, .int 1]]) (.tuple [.none, .tuple [.int 1, .int 1]])) = true := by
  rw [PySem.W.eqv_refl_alike _ (by rfl)]
  decide
theorem inV_hd {hd : Int} (h : inV (.int hd) [.int (-1), .int 8] = true) : hd = -1 ∨ hd = 8 := by
  unfold inV at h
  simp [eqV] at h
  omega
theorem PaX.turn {y : Ly} {hd : Int} (h : PaX y hd) (e : hd = -1 ∨ hd = 8) : PaX y (7 - hd) := by
  have ho := h.ho
  refine ⟨⟨h.ok, h.ex, by omega, ?_⟩, h.x0⟩
  unfold HdOk at ho ⊢
  rcases e with rfl | rfl
  · rw [if_pos (by decide)] at ho
    rw [if_neg (by decide), ho]
    decide
  · rw [if_neg (by decide)] at ho
    rw [if_pos (by decide), ho]
abbrev sLaw : Stmt := top 39
abbrev NLaw : List Str := ["_law_script", "_law_pen_here", "_law_menus_here", "_law_ahead", "_law_value", "_law_turn", "_law_parts_here", "_law_text", "_law_bent_here", "_law_k", "_law_found", "_law_spot"]
theorem scLaw : FnScope NLaw ["_law_script"] (defScope sLaw) := ⟨rfl, rfl, rfl, by decide +kernel, rfl, by decide +kernel, by decide +kernel⟩
def spLaw (K : PySem.W.Frag) : Sp := fun vs H Q _ => ∃ (a : Addr) (ns : List Int), vs = [.ref a] ∧ SqL K H a (ns.map V.int) ∧ ∀ H', Q (.bl true) H'
theorem Pn.mn {p c m : Addr} {n : Nat} {H G : Hp} (h : Pn p c n H G) (hm : MnAt H m) : MnAt G m := by
  obtain ⟨m0, m1, m2, h1, h2, h3, h4⟩ := hm.ex
  exact ⟨m0, m1, m2, h.lst h1, h.lst h2, h.lst h3, h.lst h4⟩
section
variable {P : Program} {w : World} {K : PySem.W.Frag} {mg : Str → Option Value} {base : Heap} {C CT : Addr} {f0 fE : Addr} {fd0 fdE : FuncData}
theorem ok_law {fa : Addr} {fd : FuncData} (F : Fun K "law" "law" sLaw fa fd) (T : Txt K mg) (TX : TxtL K mg C) (TM : TxtM mg) (M0 : Mk K C f0) (G0 : FnOk P w K mg base (L2.CX P w) 5 f0 fd0 ["self", "text"] (spLI K C CT)) (b0 : L2.Binds K fd0 ["self", "text"] [])
    (BE : EqC K C fE) (GE : FnOk P w K mg base CX0 2 fE fdE ["self", "other"] (spEQ C)) (bE : L2.Binds K fdE ["self", "other"] [])
    (CPn : Cl P w K mg base 1 "_law_pen" (spPen K)) (CD : Cl P w K mg base 1 "_law_draw" (spDraw K)) (CMn : Cl P w K mg base 1 "_law_menus" spMn) (CPL : Cl P w K mg base 7 "plain_layout" (spPL C)) (GT : ClG P w K mg base 7 "_law_is_told" (spTd C))
    (CRd : Cl P w K mg base 7 "_law_read" (spRd K C)) (CLP : Cl P w K mg base 3 "_law_parts" spLP) (CPT : Cl P w K mg base 1 "_law_parts_text" (spPT K)) (CBt : Cl P w K mg base 3 "_law_bent" spBt) (CWS : Cl P w K mg base 2 "_law_wrong_spot" spWS)
    (CEr : Cl P w K mg base 7 "_law_is_equal_right" spEr) : FnG P w K mg base CX0 8 fa fd ["_law_script"] (spLaw K) := by
  obtain ⟨oc, od, kV, doc, pm, an, cdv, ct, osl, rfl, lk, hcd⟩ := F.ex
  refine fnG_of (k := 7) lk hcd scLaw (fun vs H Q E h => ?_) (fun A1 hg outer s H vs Q E hr h => ?_)
  · obtain ⟨a, ns, rfl, _⟩ := h
    rfl
  · obtain ⟨a, ns, rfl, hS, k⟩ := h
    have hG : (A1.deeper (envOfC "law" (defScope sLaw) s.heap.objs.size fa cdv)).guards = some [] := hg
    have r2 : Room 2 _ := hr.mono (by decide)
    have r6 : Room 6 _ := hr.mono (by decide)
    have r3 : Room 3 _ := hr.mono (by decide)
    refine ⟨_, PSs.nox (C8.pss_cut (ps_par3 (i := 1) (j := 2) (l := 3) (by rfl) scLaw.nd rfl rfl rfl (by decide) (by decide) (by decide) rfl rfl rfl  (pa_cons (pe_cl CPn hr (by decide) rfl (pa_cons (pv 0) pa_nil)) (pa_cons (pe_cl0 CMn hr (by decide) rfl) (pa_cons pe_str pa_nil))) (by rfl))
(C8.pss_cut (ps_if (PW.pt (pw_or (pt_cmpR op_ne (pe_fld (pe_cl0 CPL hr (by decide) rfl) rfl) (pv 3) (nomark _)) (pw_or (pt_cmpR (op_neO BE GE r3 bE pass0) (pe_cl0 CPL hr (by decide) rfl) (pe_make M0 G0 r6 rfl (by exact TX.gC) b0 .nil passF (pa_cons (pv 3) pa_nil)) (nomark _)) (pw_or1 (pt_not (pt_val (pe_clG GT hr (by decide) hG rfl (pa_cons (pe_cl0 CPL hr (by decide) rfl) (pa_cons (pv 3) pa_nil)))))))))
(pss_one (ps_ret pe_bl))
pss_nil)
(C8.pss_cut (ps_for PassesOwn.never rfl (pi_list (pe_lst (pa_cons pe_non (pa_cons pe_int (pa_cons pe_bl (pa_cons pe_str (pa_cons (pe_lst (pa_cons pe_str pa_nil)) (pa_cons (pe_tup (pa_cons pe_str pa_nil)) pa_nil)))))))) (pg_name (i := 4) scLaw.nd rfl (Or.inl rfl))
(pss_one (ps_if (pt_cmpR (op_neD (hu64 hr)) (pe_cl CRd hr (by decide) rfl (pa_cons (pv 4) pa_nil)) (pe_tup (pa_cons pe_non (pa_cons (pe_tup (pa_cons pe_int (pa_cons pe_int pa_nil))) pa_nil))) (nomark _))
(pss_one (ps_ret pe_bl))
pss_nil)))
(pss_cons (ps_for PassesOwn.never rfl (pi_range1 rfl (by exact T.range) (pa_cons pe_int pa_nil)) (pg_name (i := 5) scLaw.nd rfl (Or.inl rfl))
(C8.pss_cut (ps_set (i := 6) scLaw.nd rfl (Or.inl rfl) (pe_cl CLP hr (by decide) rfl (pa_cons (pv 1) pa_nil)))
(C8.pss_cut (ps_set (i := 7) scLaw.nd rfl (Or.inl rfl) (pe_cl CPT hr (by decide) rfl (pa_cons (pv 6) pa_nil)))
(pss_cons (ps_set (i := 8) scLaw.nd rfl (Or.inl rfl) (pv 7))
(C8.pss_cut (ps_for PassesOwn.never rfl (pi_range1 rfl (by exact T.range) (pa_cons (pe_cl CD hr (by decide) rfl (pa_cons (pv 1) (pa_cons pe_int pa_nil))) pa_nil)) (pg_name (i := 9) scLaw.nd rfl (Or.inl rfl))
(pss_one (ps_set (i := 8) scLaw.nd rfl (Or.inl rfl) (pe_cl CBt hr (by decide) rfl (pa_cons (pv 1) (pa_cons (pv 8) pa_nil))))))
(C8.pss_cut (ps_asg (pe_cl CRd hr (by decide) rfl (pa_cons (pv 8) pa_nil)) (pg_tup (by rfl) (pgs_cons (pg_name (i := 10) scLaw.nd rfl (Or.inl rfl)) (pgs_cons (pg_name (i := 11) scLaw.nd rfl (Or.inl rfl)) pgs_nil))))
(C8.pss_cut (ps_if (PW.pt (pw_or (pt_cmpR (op_neD (hu64 hr)) (pv 11) (pe_cl CWS hr (by decide) rfl (pa_cons (pv 8) (pa_cons (pv 2) pa_nil))) (nomark _)) (pw_or1 (pt_cmpR op_eq (pe_cmpR op_isN (pv 10) pe_non (nomark _)) (pe_cmpR op_isN (pv 11) pe_non (nomark _)) (nomark _)))))
(pss_one (ps_ret pe_bl))
pss_nil)
(C8.pss_cut (ps_if (PW.pt (pw_and (pt_cmpR op_notN (pv 10) pe_non (nomark _)) (pw_and1 (pt_not (pt_val (pe_clG GT hr (by decide) hG rfl (pa_cons (pv 10) (pa_cons (pv 8) pa_nil))))))))
(pss_one (ps_ret pe_bl))
pss_nil)
(C8.pss_cut (ps_if (pt_cmpR op_in_seq (pe_ix ix_list (pv 6) pe_int (fun _ _ => rfl)) (pe_lst (pa_cons (pe_un un_neg pe_int) (pa_cons pe_int pa_nil))) rfl)
(pss_one (ps_asg (pe_op op_sub pe_int (pe_ix ix_list (pv 6) pe_int (fun _ _ => rfl))) (pg_sub (pv 6) pe_int set_list)))
pss_nil)
(C8.pss_cut (ps_if (PW.pt (pw_or (pt_cmpR (op_neO BE GE r3 bE pass0) (pe_make M0 G0 r6 rfl (by exact TX.gC) b0 .nil passF (pa_cons (pv 7) pa_nil)) (pe_make M0 G0 r6 rfl (by exact TX.gC) b0 .nil passF (pa_cons (pe_cl CPT hr (by decide) rfl (pa_cons (pv 6) pa_nil)) pa_nil)) (nomark _)) (pw_or1 (pt_cmpR (op_eqO BE GE r2 bE pass0) (pe_make M0 G0 r6 rfl (by exact TX.gC) b0 .nil passF (pa_cons (pv 7) pa_nil)) (pv 7) (nomark _)))))
(pss_one (ps_ret pe_bl))
pss_nil)
(C8.pss_cut (ps_if (pt_not (pt_val (pe_cl CEr hr (by decide) rfl (pa_cons (pv 7) (pa_cons (pv 3) pa_nil)))))
(pss_one (ps_ret pe_bl))
pss_nil)
(pss_one (ps_set (i := 3) scLaw.nd rfl (Or.inl rfl) (pv 7))))))))))))))
(pss_one (ps_ret pe_bl)))))), ?_⟩
    refine ⟨fun σ G => ∃ (p c m : Addr), σ = [some (.ref a), some (.ref p), some (.ref m), some (.str (S (Tx y8 (-1)))), none, none, none, none, none, none, none, none] ∧ PenAt G p c 0 ∧ MnAt G m, ?_, ?_⟩
    · refine ⟨_, rfl, a, ns, rfl, hS, fun p c H0 hp0 s0 hP => ⟨rfl, fun m G1 s1 hm => ?_⟩⟩
      refine ⟨_, _, _, rfl, p, c, m, ?_, hP.same s1, hm⟩
      rw [← lit_pl]
      rfl
    rintro σ G1 ⟨p, c, m, rfl, hP, hm⟩
    refine ⟨fun σ G => σ = [some (.ref a), some (.ref p), some (.ref m), some (.str (S (Tx y8 (-1)))), none, none, none, none, none, none, none, none] ∧ PenAt G p c 0 ∧ MnAt G m, ?_, ?_⟩
    · refine ⟨rfl, fun a1 G2 s2 ⟨dx1, h1⟩ => ⟨a1, C, dx1, _, _, rfl, h1, TX.cl, TX.nT, rfl, _, rfl, rfl, _, rfl, ?_⟩⟩
      refine (if_neg (by simp)).mpr ?_
      refine ⟨rfl, fun a2 G3 s3 h3 => ⟨_, rfl, fun x dx hx hdx hne => make_rN y8_ok hx hdx (fun G4 s4 h4 => ⟨rfl, ?_⟩)⟩⟩
      obtain ⟨d2, i2⟩ := h3.same s4
      obtain ⟨d3, i3⟩ := id h4
      refine ⟨a2, d2, _, rfl, i2, .inl ⟨x, d3, _, rfl, i3⟩, a2, y8, Tx y8 (-1), _, rfl, ⟨d2, i2⟩, .inl ⟨x, y8, Tx y8 (-1), rfl, h4, fun G5 s5 => ⟨_, rfl, _, rfl, ?_⟩⟩⟩
      rw [eqL_rf]
      refine (if_neg (by decide)).mpr ?_
      refine ⟨rfl, fun a3 G6 s6 h6 => ⟨_, rfl, a3, y8, -1, rfl, h6, y8_ok, .inr rfl, fun G7 s7 => ⟨_, rfl, ?_⟩⟩⟩
      have sA := s2.trans (s3.trans (s4.trans (s5.trans (s6.trans s7))))
      refine (if_neg (by decide)).mpr ?_
      exact ⟨rfl, hP.same sA, hm.same sA⟩
    rintro σ G2 ⟨rfl, hP2, hm2⟩
    refine ⟨fun σ G => ∃ x4, σ = [some (.ref a), some (.ref p), some (.ref m), some (.str (S (Tx y8 (-1)))), x4, none, none, none, none, none, none, none] ∧ PenAt G p c 0 ∧ MnAt G m, ?_, ?_⟩
    · refine ⟨by show 1 ≤ sizeLine; decide, fun l1 hl1 => ⟨by show 1 ≤ sizeLine; decide, fun t1 ht1 => ⟨by show 6 ≤ sizeLine; decide, fun l hl => ?_⟩⟩⟩
      have s1 := sNew (o := .lst [.str "blocks of 8"]) hl1
      have s2 := sNew (o := .tup [.str "blocks of 8"]) ht1
      have s3 := sNew (o := .lst [.non, .int 5, .bl true, .str "", .ref l1, .ref t1]) hl
      have e1 := s3 _ _ (s2 _ _ upd_same)
      have e2 := s3 _ _ upd_same
      have sA := s1.trans (s2.trans s3)
      generalize hG3 : upd (upd (upd G2 l1 (.lst [.str "blocks of 8"])) t1 (.tup [.str "blocks of 8"])) l (.lst [.non, .int 5, .bl true, .str "", .ref l1, .ref t1]) = G3 at *
      have e3 : G3 l = some (.lst [.non, .int 5, .bl true, .str "", .ref l1, .ref t1]) := by rw [← hG3]; exact upd_same
      refine ⟨l, rfl, ⟨_, .inl (.inl e3)⟩, for_list (K := K) (a := l) (xs := [.non, .int 5, .bl true, .str "", .ref l1, .ref t1]) (fun i σ G => ∃ x4, σ = [some (.ref a), some (.ref p), some (.ref m), some (.str (S (Tx y8 (-1)))), x4, none, none, none, none, none, none, none] ∧ Same G3 G)
        ⟨none, rfl, .refl _⟩ (fun i σ G _ ⟨_, _, s⟩ => .inl (.inl (s _ _ e3))) ?_ ?_⟩
      · rintro i v σ G hv ⟨x4, rfl, sG⟩
        have hc : v = .str (S []) ∨ ∀ G', Same G G' → NoStr K G' v := by
          match i, hv with
          | 0, hv => obtain rfl := Option.some.inj hv; exact .inr fun G' _ => ⟨"NoneType", .base .non, by decide +kernel⟩
          | 1, hv => obtain rfl := Option.some.inj hv; exact .inr fun G' _ => ⟨"int", .base (.int _), by decide +kernel⟩
          | 2, hv => obtain rfl := Option.some.inj hv; exact .inr fun G' _ => ⟨"bool", .base (.bl _), by decide +kernel⟩
          | 3, hv => obtain rfl := Option.some.inj hv; exact .inl rfl
          | 4, hv => obtain rfl := Option.some.inj hv; exact .inr fun G' sg => ⟨"list", .base (.lst (sg _ _ (sG _ _ e1))), by decide +kernel⟩
          | 5, hv => obtain rfl := Option.some.inj hv; exact .inr fun G' sg => ⟨"tuple", .base (.tup (sg _ _ (sG _ _ e2))), by decide +kernel⟩
          | (n + 6), hv => cases hv
        rcases hc with rfl | hn
        · refine ⟨_, rfl, _, rfl, .inl ⟨[], rfl, Nat.zero_le _, fun y hd hp e => (nil_no hp e).elim, fun i c hws r s G' sg hr hs => ?_⟩⟩
          obtain ⟨rfl, rfl⟩ := nil_ws hws
          refine ⟨by show 2 ≤ sizeLine; decide, fun u1 hu1 => ⟨by show 2 ≤ sizeLine; decide, fun u2 hu2 => ?_⟩⟩
          have t1 := sNew (o := .tup [.int 1, .int 1]) hu1
          have t2 := sNew (o := .tup [.non, .ref u1]) hu2
          refine ⟨.tuple [.none, .tuple [.int 1, .int 1]], .tuple [.none, .tuple [.int 1, .int 1]], .tup (.inl (.inl (t2 _ _ (t1 _ _ hr)))) (.cons .non (.cons (.tup (.inl (.inl (t2 _ _ (t1 _ _ hs)))) (.cons (.int _) (.cons (.int _) .nil))) .nil)), .tup (.inl (.inl upd_same)) (.cons .non (.cons (.tup (.inl (.inl (t2 _ _ upd_same))) (.cons (.int _) (.cons (.int _) .nil))) .nil)), rfl, rfl, _, rfl, ?_⟩
          refine (if_neg one_one).mpr ?_
          exact ⟨_, rfl, sG.trans (sg.trans (t1.trans t2))⟩
        · refine ⟨_, rfl, _, rfl, .inr ⟨hn, fun r s G' sg hr hs => ?_⟩⟩
          refine ⟨by show 2 ≤ sizeLine; decide, fun u1 hu1 => ⟨by show 2 ≤ sizeLine; decide, fun u2 hu2 => ?_⟩⟩
          have t1 := sNew (o := .tup [.int 1, .int 1]) hu1
          have t2 := sNew (o := .tup [.non, .ref u1]) hu2
          refine ⟨.tuple [.none, .tuple [.int 1, .int 1]], .tuple [.none, .tuple [.int 1, .int 1]], .tup (.inl (.inl (t2 _ _ (t1 _ _ hr)))) (.cons .non (.cons (.tup (.inl (.inl (t2 _ _ (t1 _ _ hs)))) (.cons (.int _) (.cons (.int _) .nil))) .nil)), .tup (.inl (.inl upd_same)) (.cons .non (.cons (.tup (.inl (.inl (t2 _ _ upd_same))) (.cons (.int _) (.cons (.int _) .nil))) .nil)), rfl, rfl, _, rfl, ?_⟩
          refine (if_neg one_one).mpr ?_
          exact ⟨_, rfl, sG.trans (sg.trans (t1.trans t2))⟩
      · rintro σ G ⟨x4, rfl, sG⟩
        exact ⟨_, rfl, hP2.same (sA.trans sG), hm2.same (sA.trans sG)⟩
    rintro σ G3 ⟨x4, rfl, hP3, hm3⟩
    refine ⟨_, rfl, by decide, by decide, ?_⟩
    refine for_range (lo := 0) (n := 4) (fun i σ G => ∃ (z : Ly) (hz : Int) (x5 x6 x7 x8 x9 x10 x11 : Option V), σ = [some (.ref a), some (.ref p), some (.ref m), some (.str (S (Tx z hz))), x4, x5, x6, x7, x8, x9, x10, x11] ∧ PaX z hz ∧ (0 ≤ hz ∨ hz = -1) ∧ PenAt G p c (40 * i) ∧ MnAt G m)
      ⟨y8, -1, _, _, _, _, _, _, _, rfl, y8_ok, .inr rfl, hP3, hm3⟩ ?_ (fun σ G _ => k G)
    rintro i σ G hi ⟨z, hz, x5, x6, x7, x8, x9, x10, x11, rfl, hpz, hnz, hP, hm⟩
    refine ⟨fun σ G' => ∃ (y : Ly) (hd : Int) (q : Addr), σ = [some (.ref a), some (.ref p), some (.ref m), some (.str (S (Tx z hz))), x4, some (.int (0 + (i : Int))), some (.ref q), x7, x8, x9, x10, x11] ∧ Pn p c (40 * i + 10) G G' ∧ G' q = some (.lst (paV y hd)) ∧ PaX y hd ∧ (0 ≤ hd ∨ hd = -1) ∧ G q = none, ?_, ?_⟩
    · exact ⟨_, rfl, p, c, 40 * i, rfl, hP, by omega, fun y hd q G' n hq0 hq1 hp hn => ⟨y, hd, q, rfl, n, hq1, hp, hn, hq0⟩⟩
    rintro σ G4 ⟨y, hd, q, rfl, n4, hq4, hpy, hny, hq0⟩
    refine ⟨fun σ G' => σ = [some (.ref a), some (.ref p), some (.ref m), some (.str (S (Tx z hz))), x4, some (.int (0 + (i : Int))), some (.ref q), some (.str (S (Tx y hd))), x8, x9, x10, x11] ∧ Pn p c (40 * i + 10) G G' ∧ G' q = some (.lst (paV y hd)), ?_, ?_⟩
    · exact ⟨_, rfl, q, y, hd, rfl, .inl (.inl hq4), hpy, fun G' s' => ⟨rfl, n4.same s', s' _ _ hq4⟩⟩
    rintro σ G5 ⟨rfl, n5, hq5⟩
    refine ⟨_, rfl, ?_⟩
    refine ⟨fun σ G' => ∃ (t : List Nat) (x9 : Option V), σ = [some (.ref a), some (.ref p), some (.ref m), some (.str (S (Tx z hz))), x4, some (.int (0 + (i : Int))), some (.ref q), some (.str (S (Tx y hd))), some (.str (S t)), x9, x10, x11] ∧ Pn p c (40 * i + 31) G G' ∧ G' q = some (.lst (paV y hd)) ∧ t.length ≤ 400, ?_, ?_⟩
    · refine ⟨_, rfl, p, c, 40 * i + 10, 3, rfl, n5.pen, by omega, by decide, log_ok (by decide) (by decide), fun v o h0 h3 hP6 => ⟨v, rfl, by omega, by omega, ?_⟩⟩
      have n6 := n5.draw hP6
      have hT := Tx_60 hpy
      have hq6 : upd G5 p o q = some (.lst (paV y hd)) := ((Pn.refl n5.pen).draw hP6).lst hq5
      refine for_range (lo := 0) (n := v.toNat) (fun j σ G' => ∃ (t : List Nat) (x9 : Option V), σ = [some (.ref a), some (.ref p), some (.ref m), some (.str (S (Tx z hz))), x4, some (.int (0 + (i : Int))), some (.ref q), some (.str (S (Tx y hd))), some (.str (S t)), x9, x10, x11] ∧ Pn p c (40 * i + 11 + 10 * j) G G' ∧ G' q = some (.lst (paV y hd)) ∧ (j = 0 → t.length ≤ 60) ∧ (j = 1 → t.length ≤ 165) ∧ t.length ≤ 400)
        ⟨_, _, rfl, n6, hq6, fun _ => hT, fun z => by omega, by omega⟩ ?_ ?_
      · rintro j σ G' hj ⟨t, x9, rfl, nj, hqj, l0, l1, l2⟩
        have hjl : t.length ≤ 165 ∧ (j = 0 → t.length ≤ 60) := ⟨by
          by_cases e : j = 0
          · have := l0 e
            omega
          · exact l1 (by omega), l0⟩
        refine ⟨_, rfl, _, rfl, p, c, _, t, rfl, nj.pen, by omega, by omega, fun t' G'' hl' n' => ⟨t', _, rfl, (nj.trans n').mono (by omega), n'.lst hqj, fun e => by omega, fun e => by have := hjl.2 (by omega); omega, by omega⟩⟩
      · rintro σ G' ⟨t, x9, rfl, nj, hqj, _, _, l2⟩
        exact ⟨t, x9, rfl, nj.mono (by omega), hqj, l2⟩
    rintro σ G6 ⟨t, x9, rfl, n6, hq6, htl⟩
    have wr : ∀ {y' : Ly} {hd' : Int}, PaX y' hd' → t = Tx y' hd' → ws 0 (lns t) = none := fun hp' e => by rw [e]; exact ws_right hp'
    refine ⟨fun σ G' => ∃ f sp : V, σ = [some (.ref a), some (.ref p), some (.ref m), some (.str (S (Tx z hz))), x4, some (.int (0 + (i : Int))), some (.ref q), some (.str (S (Tx y hd))), some (.str (S t)), x9, some f, some sp] ∧ Same G6 G' ∧ ((∃ (o : Addr) (y' : Ly) (hd' : Int), PaX y' hd' ∧ t = Tx y' hd' ∧ LyT C G' o y' t ∧ f = .ref o ∧ sp = .non) ∨ (∃ (i' c' : Nat) (s : Addr), ws 0 (lns t) = some (i', c') ∧ f = .non ∧ sp = .ref s ∧ G' s = some (.tup [nI i', nI c']))), ?_, ?_⟩
    · refine ⟨_, rfl, _, rfl, .inl ⟨t, rfl, htl, fun y' hd' hp' e r o G' s' ho hr => ?_, fun i' c' hws r s G' s' hr hs => ?_⟩⟩
      · exact ⟨r, _, rfl, .inl (.inl hr), rfl, _, _, rfl, _, _, rfl, rfl, _, _, rfl, s', .inl ⟨o, y', hd', hp', e, ho, rfl, rfl⟩⟩
      · exact ⟨r, _, rfl, .inl (.inl hr), rfl, _, _, rfl, _, _, rfl, rfl, _, _, rfl, s', .inr ⟨i', c', s, hws, rfl, rfl, hs⟩⟩
    rintro σ G7 ⟨f, sp, rfl, s7, hor⟩
    have hm7 : MnAt G7 m := (n6.mn hm).same s7
    refine ⟨fun σ G' => σ = [some (.ref a), some (.ref p), some (.ref m), some (.str (S (Tx z hz))), x4, some (.int (0 + (i : Int))), some (.ref q), some (.str (S (Tx y hd))), some (.str (S t)), x9, some f, some sp] ∧ Same G7 G', ?_, ?_⟩
    · rcases hor with ⟨o, y', hd', hp', et, ho, rfl, rfl⟩ | ⟨i', c', s, hws, rfl, rfl, hs⟩
      · refine ⟨_, rfl, _, rfl, _, rfl, t, m, rfl, htl, hm7, fun _ G' s' => ?_, fun i' c' hws => by rw [wr hp' et] at hws; cases hws⟩
        refine ⟨.none, .none, .non, .non, rfl, rfl, _, rfl, (if_neg (by decide)).mpr ?_⟩
        refine ⟨_, rfl, rfl, _, rfl, rfl, rfl, _, rfl, ?_⟩
        refine (if_neg (by simp)).mpr ?_
        exact ⟨rfl, s'⟩
      · refine ⟨_, rfl, _, rfl, _, rfl, t, m, rfl, htl, hm7, (fun hn => by rw [hws] at hn; cases hn), fun i2 c2 hws2 r G' s' hr => ?_⟩
        rw [hws] at hws2
        cases hws2
        refine ⟨.tuple [.int i', .int c'], .tuple [.int i', .int c'], .tup (.inl (.inl (s' _ _ hs))) (.cons (.int _) (.cons (.int _) .nil)), .tup (.inl (.inl hr)) (.cons (.int _) (.cons (.int _) .nil)), rfl, rfl, _, rfl, ?_⟩
        rw [PySem.W.eqv_refl_alike _ (by rfl)]
        refine (if_neg (by decide)).mpr ?_
        refine ⟨_, rfl, rfl, _, rfl, rfl, rfl, _, rfl, ?_⟩
        refine (if_neg (by simp)).mpr ?_
        exact ⟨rfl, s'⟩
    rintro σ G8 ⟨rfl, s8⟩
    refine ⟨fun σ G' => σ = [some (.ref a), some (.ref p), some (.ref m), some (.str (S (Tx z hz))), x4, some (.int (0 + (i : Int))), some (.ref q), some (.str (S (Tx y hd))), some (.str (S t)), x9, some f, some sp] ∧ Same G8 G', ?_, ?_⟩
    · rcases hor with ⟨o, y', hd', hp', et, ho, rfl, rfl⟩ | ⟨i', c', s, hws, rfl, rfl, hs⟩
      · obtain ⟨he, hq', hn', e'⟩ := nrm hp'
        have et2 := et.trans e'
        subst et2
        refine ⟨_, rfl, rfl, _, rfl, (if_pos (by simp)).mpr ?_⟩
        refine ⟨_, rfl, _, rfl, o, y', he, rfl, ho.same s8, hq', hn', fun G' s' => ⟨_, rfl, (if_neg (by decide)).mpr ⟨rfl, s'⟩⟩⟩
      · refine ⟨_, rfl, rfl, _, rfl, (if_neg (by simp)).mpr ?_⟩
        exact ⟨rfl, .refl _⟩
    rintro σ G9 ⟨rfl, s9⟩
    have s79 := s7.trans (s8.trans s9)
    have hq9 := s79 _ _ hq6
    have hP9 := n6.pen.same s79
    have hm9 := (n6.mn hm).same s79
    refine ⟨fun σ G' => ∃ hd2 : Int, σ = [some (.ref a), some (.ref p), some (.ref m), some (.str (S (Tx z hz))), x4, some (.int (0 + (i : Int))), some (.ref q), some (.str (S (Tx y hd))), some (.str (S t)), x9, some f, some sp] ∧ PaX y hd2 ∧ G' q = some (.lst (paV y hd2)) ∧ PenAt G' p c (40 * i + 31) ∧ MnAt G' m, ?_, ?_⟩
    · refine ⟨_, rfl, q, _, _, _, rfl, rfl, .inl (.inl hq9), (by rfl : atI (paV y hd) 4 = some (.int hd)), _, rfl, by show 2 ≤ sizeLine; decide, fun l hl => ?_⟩
      have s10 := sNew (o := .lst [.int (-1), .int 8]) hl
      refine ⟨l, [.int (-1), .int 8], rfl, .inl (.inl (.inl upd_same)), rfl, rfl, _, rfl, ?_⟩
      refine ite2 (fun h => ?_) (fun h => ?_)
      · have h := inV_hd h
        have hq10 := s10 _ _ hq9
        refine ⟨_, rfl, q, _, _, _, rfl, rfl, .inl (.inl hq10), (by rfl : atI (paV y hd) 4 = some (.int hd)), _, _, rfl, rfl, _, rfl, q, _, _, 4, rfl, rfl, hq10, by rfl, ?_⟩
        have n10 := ((n6.same s79).new (o := .lst [.int (-1), .int 8]) hl).put (o := .lst (paV y (7 - hd))) hq0
        exact ⟨7 - hd, rfl, hpy.turn h, upd_same, n10.pen, n10.mn hm⟩
      · exact ⟨hd, rfl, hpy, s10 _ _ hq9, hP9.same s10, hm9.same s10⟩
    rintro σ G10 ⟨hd2, rfl, hp2, hq10, hP10, hm10⟩
    refine ⟨fun σ G' => σ = [some (.ref a), some (.ref p), some (.ref m), some (.str (S (Tx z hz))), x4, some (.int (0 + (i : Int))), some (.ref q), some (.str (S (Tx y hd))), some (.str (S t)), x9, some f, some sp] ∧ Same G10 G', ?_, ?_⟩
    · refine ⟨_, rfl, fun x dx hx hdx hne => make_rN hpy hx hdx (fun G11 s11 h11 => ⟨rfl, ?_⟩)⟩
      refine ⟨_, rfl, q, y, hd2, rfl, .inl (.inl (s11 _ _ hq10)), hp2, fun G12 s12 => fun x' dx' hx' hdx' hne' => make_rN hp2 hx' hdx' (fun G13 s13 h13 => ⟨rfl, ?_⟩)⟩
      obtain ⟨d1, i1⟩ := h11.same (s12.trans s13)
      obtain ⟨d2, i2⟩ := id h13
      refine ⟨x, d1, _, rfl, i1, .inl ⟨x', d2, _, rfl, i2⟩, x, y, Tx y hd, _, rfl, ⟨d1, i1⟩, .inl ⟨x', y, Tx y hd2, rfl, h13, fun G14 s14 => ⟨_, rfl, _, rfl, ?_⟩⟩⟩
      rw [eqL_rf]
      refine (if_neg (by decide)).mpr ?_
      refine ⟨_, rfl, fun x3 dx3 hx3 hdx3 hne3 => make_rN hpy hx3 hdx3 (fun G15 s15 h15 => ⟨rfl, ?_⟩)⟩
      obtain ⟨d3, i3⟩ := id h15
      refine ⟨_, rfl, x3, d3, _, rfl, i3, .inr (.inr (.inr ⟨_, rfl⟩)), x3, y, Tx y hd, _, rfl, h15, .inr ⟨_, rfl, _, rfl, (if_neg (by decide)).mpr ⟨rfl, ?_⟩⟩⟩
      exact s11.trans (s12.trans (s13.trans (s14.trans s15)))
    rintro σ G11 ⟨rfl, s11⟩
    refine ⟨fun σ G' => σ = [some (.ref a), some (.ref p), some (.ref m), some (.str (S (Tx z hz))), x4, some (.int (0 + (i : Int))), some (.ref q), some (.str (S (Tx y hd))), some (.str (S t)), x9, some f, some sp] ∧ Same G11 G', ?_, ?_⟩
    · exact ⟨_, rfl, _, rfl, y, z, hd, hz, rfl, hpy, hny, hpz, hnz, fun G' s' => ⟨_, rfl, (if_neg (by decide)).mpr ⟨rfl, s'⟩⟩⟩
    rintro σ G12 ⟨rfl, s12⟩
    have sB := s11.trans s12
    exact ⟨_, rfl, y, hd, _, _, _, _, _, _, _, rfl, hpy, hny, (hP10.same sB).mono (by omega), hm10.same sB⟩
end
end Wq
set_option Elab.async false
set_option linter.all false
set_option maxRecDepth 100000
set_option maxHeartbeats 2000000
/-! the end: the law is called where nothing is being shown -/
namespace Wq
open PySem PySem.Spec PyProof.Rows L2
theorem callG {P : Program} {w : World} {K : PySem.W.Frag} {mg mb : Str → Option Value} {CX : CXT} {k : Nat} {fa a : Addr} {fd : FuncData} {x : Str} {sp : Sp} {s : Shared} {vs : List Value} {ns : List Int} {n : Nat}
    (KX : K.In s.heap) (hns : s.heap.Ns mainGlobals mg) (hb : s.heap.Ns builtinsNs mb) (hbb : ∀ x : Str, x ≠ "__name__" → mb x = bootBuiltins x) (hlim : s.heap.NoLimit) (hg : s.gens = #[])
    (ha : s.heap.get? a = some { cls := .type "list", data := .seq vs.toArray }) (hi : IntsAre vs ns) (hl : ns.length ≤ n) (hn : n ≤ sizeLine) (hr : Room k callerA)
    (F : ∀ base : Heap, K.In base → base.Ns mainGlobals mg → FnG P w K mg base CX k fa fd [x] sp) (hbind : ∀ (s : Shared) (u : Value), BindsTo s fd ⟨[u], []⟩ [(x, u)])
    (hsp : ∀ H : Hp, Only H → SqL K H a (ns.map V.int) → sp [.ref a] H (fun v _ => v = .bl true) fun _ _ _ => False) (hCX : ∀ H e s', CX [] H s (fun _ _ _ => False) e s' → False) :
    codeAny (model P w) callerA (.call (.ref fa) ⟨[.ref a], []⟩) (fun r s' => r = .ok (.ret (.bool true)) ∧ OldK s.heap s'.heap ∧ s'.os = s.os ∧ AllBare s'.gens) s := by
  have rv := vals_ints hi
  have hz : (ns.map V.int).length ≤ sizeLine := by rw [List.length_map]; omega
  -- nothing but a is tracked in H
  have main : ∀ H : Hp, Only H → SqL K H a (ns.map V.int) → HOk P w H s.heap → (∀ b, H b ≠ none → b = a) → (H a ≠ none → K.lookup a = none) → codeAny (model P w) callerA (.call (.ref fa) ⟨[.ref a], []⟩) (fun r s' => r = .ok (.ret (.bool true)) ∧ OldK s.heap s'.heap ∧ s'.os = s.os ∧ AllBare s'.gens) s := by
    intro H hO hS ok only apart
    have nob : ∀ {b : Addr}, b ≠ a → H b = none := fun {b} h => Classical.byContradiction fun z => h (only b z)
    have hdict : ∀ {b : Addr} {m : Str → Option Value}, s.heap.Ns b m → (hidT s.heap H).Ns b m := by
      rintro b m ⟨o, es, ep, e, d, r⟩
      refine ⟨o, es, ep, hidT_get e (nob fun z => ?_), d, r⟩
      subst z
      rw [ha] at e
      cases e
      cases d
    have hKb : K.In (hidT s.heap H) := fun b o e => hidT_get (KX b o e) <| by
      by_cases hba : b = a
      · subst hba
        refine Classical.byContradiction fun z => ?_
        rw [apart z] at e
        cases e
      · exact nob hba
    obtain ⟨mc, c1, c2⟩ := hlim
    have e0 : Env0 P w K mg (hidT s.heap H) callerA [] s H := ⟨rfl, ⟨hKb, hdict hns, ⟨mb, hdict hb, hbb⟩, ⟨mc, hdict c1, c2⟩⟩, fun b o e => of_hidT e, Nat.le_of_eq (hidT_size _ _), trivial, fun b hb => (nomatch hb), ok, .of_eq hg⟩
    refine codeAny_mono ((F _ hKb (hdict hns)).go callerA hr rfl [] s H ⟨[.ref a], []⟩ [.ref a] [.ref a] _ _ e0 (hbind s (.ref a)) (.cons rfl .nil) (hsp H hO hS)) fun r s' h => ?_
    match r, h with
    | .error e, h => exact (hCX H e s' h).elim
    | .ok (.ret u), h =>
      obtain ⟨v, H', os, bare, un, ok', r', q⟩ := h
      have q : v = .bl true := q
      subst q
      have r' : u = Value.bool true := r'
      subst r'
      refine ⟨rfl, OldK.of_keep fun b o e => ?_, os, bare⟩
      rcases hO b with z | ⟨ob, xs, z⟩
      · exact un.keep b o e z (fun z => nomatch z) (fun z => nomatch z)
      · obtain ⟨e1, _⟩ := ok b _ z
        obtain ⟨e2, _⟩ := ok' b _ (un.frzs b ob _ z)
        rw [e1] at e
        cases e
        exact e2
  cases hk : K.lookup a with
  | some o =>
    have e := KX a o hk
    rw [ha] at e
    cases e
    exact main (fun _ => none) (fun _ => .inl rfl) (.inr ⟨_, vs.toArray, _, hk, rfl, rfl, rfl, by rw [List.size_toArray, hi.length]; omega, by simpa using rv⟩) (fun b u z => nomatch z) (fun b z => absurd rfl z) (fun z => absurd rfl z)
  | none =>
    let o : HO := .frz { cls := .type "list", data := .seq vs.toArray } (.lst (ns.map V.int))
    have h0 : upd (fun _ => none) a o a = some o := upd_same
    have h1 : ∀ {b}, b ≠ a → upd (fun _ => none) a o b = none := fun {b} h => upd_ne h
    refine main (upd (fun _ => none) a o) (fun b => ?_) (.inl (.inr ⟨_, h0⟩)) (fun b u z => ?_) (fun b z => Classical.byContradiction fun n => z (h1 n)) fun _ => hk
    · by_cases hb : b = a
      · rw [hb]; exact .inr ⟨_, _, h0⟩
      · exact .inl (h1 hb)
    · by_cases hb : b = a
      · subst hb
        rw [h0] at z
        cases z
        exact ⟨ha, hz, vs, _, rv, ha⟩
      · rw [h1 hb] at z
        cases z
theorem walkG {l : PySem.W.OpenLaw} {n k : Nat} {q : Program} {loose : List Str} {XP : (Str → Option Value) → Heap → Prop} {YP : World → Heap → Prop} {d : DefRec} {K : Params → PySem.W.Frag} {sp : World → Sp} {x : Str}
    (hn : l.most = some n) (hn2 : n ≤ sizeLine) (hdf : d.params.defaults = []) (hr : Room k callerA) (hY : ∀ (w : World) (h : Heap), YP w h → (K w.params).In h)
    (F : ∀ (w : World) (mg : Str → Option Value) (fa : Addr) (h : Heap), (K w.params).In h → h.Ns mainGlobals mg → mg d.name = some (.ref fa) →
      ∃ fd : FuncData, (∀ (s : Shared) (u : Value), BindsTo s fd ⟨[u], []⟩ [(x, u)]) ∧ ∀ base : Heap, (K w.params).In base → base.Ns mainGlobals mg → FnG l.prog w (K w.params) mg base CX0 k fa fd [x] (sp w))
    (hsp : ∀ (w : World) (H : Hp) (a : Addr) (ns : List Int), ns.length ≤ n → SqL (K w.params) H a (ns.map V.int) → sp w [.ref a] H (fun v _ => v = .bl true) fun _ _ _ => False) :
    PySem.W.WalkO q loose XP YP l.row.toRowW d [] (fun f vs => PySem.call f vs) := by
  refine Att.attach_call hn hdf fun w s₀ s₁ mg mb fa o pm cd doc a vs ns G Y ho hd hcd hmg hobj hints hlen hg => ?_
  obtain ⟨fd, hb, hF⟩ := F w mg fa _ (hY w _ Y) G.T.g hmg
  exact callG (hY w _ Y) G.T.g G.T.b G.T.builtins G.T.nolimit hg hobj hints hlen hn2 hr hF hb (fun H _ hS => hsp w H a ns hlen hS) fun _ _ _ z => z
end Wq
set_option Elab.async false
set_option linter.all false
set_option maxRecDepth 100000
set_option maxHeartbeats 2000000
namespace Wq
open PySem PySem.Spec PyProof.Rows L2
open SX (S S_len S_cat S_beq_eq)
/-- the written facts of an error with two fields -/
structure ErrW (K : PySem.W.Frag) (mg : Str → Option Value) (CE : Addr) (x f1 f2 : Str) : Prop where
  ox : OexC K CE
  n1 : PySem.W.findIn K (.ref CE) f1 = some none
  n2 : PySem.W.findIn K (.ref CE) f2 = some none
  gC : mg x = some (.ref CE)
  xf : XfC K CE
  te : PySem.W.exmOne K (.ref CE) (.ref CE) = some true
theorem ErrW.txt {K : PySem.W.Frag} {mg : Str → Option Value} {CE f : Addr} {x f1 f2 : Str} (E : ErrW K mg CE x f1 f2) (M : Meth K CE "__init__" f) : TxtE K mg CE f x f1 f2 := ⟨E.ox, E.n1, E.n2, M.at_, beq_iff_eq.mp M.fn, E.gC, E.xf, E.te⟩
section
variable {K : PySem.W.Frag} {n a b c d e : Addr} {od : Option Addr} {m : Nat} {sl : Array (Option Value)} {i j : Int} {t1 t2 t3 : Tok} {x y z : Str}
theorem st0 (l : K.lookup n = some ⟨.type "tuple", od, .seq #[] m, sl⟩) : StT K n [] := ⟨_, _, _, l, rfl, rfl, by decide, .nil⟩
theorem stI (l : K.lookup n = some ⟨.type "tuple", od, .seq #[.int i t1, .int j t2] m, sl⟩) : StT K n [.int i, .int j] := ⟨_, _, _, l, rfl, rfl, by show 2 ≤ sizeLine; decide, .cons ⟨_, rfl⟩ (.cons ⟨_, rfl⟩ .nil)⟩
theorem stR (l : K.lookup n = some ⟨.type "tuple", od, .seq #[.ref a, .ref b] m, sl⟩) : StT K n [.ref a, .ref b] := ⟨_, _, _, l, rfl, rfl, by show 2 ≤ sizeLine; decide, .cons rfl (.cons rfl .nil)⟩
theorem stB (l : K.lookup n = some ⟨.type "tuple", od, .seq #[.str x t1, .ref a] m, sl⟩) {w : List Nat} (h : x = S w) : StT K n [.str (S w), .ref a] := by
  subst h
  exact ⟨_, _, _, l, rfl, rfl, by show 2 ≤ sizeLine; decide, .cons ⟨_, rfl⟩ (.cons rfl .nil)⟩
theorem stH (l : K.lookup n = some ⟨.type "tuple", od, .seq #[.str x t1, .ref a, .str y t2] m, sl⟩) {w v : List Nat} (h : x = S w) (h' : y = S v) : StT K n [.str (S w), .ref a, .str (S v)] := by
  subst h h'
  exact ⟨_, _, _, l, rfl, rfl, by show 3 ≤ sizeLine; decide, .cons ⟨_, rfl⟩ (.cons rfl (.cons ⟨_, rfl⟩ .nil))⟩
theorem stE (l : K.lookup n = some ⟨.type "tuple", od, .seq #[.str x t1, .ref a, .str y t2, .ref b, .str z t3] m, sl⟩) {w v u : List Nat} (h : x = S w) (h' : y = S v) (h'' : z = S u) : StT K n [.str (S w), .ref a, .str (S v), .ref b, .str (S u)] := by
  subst h h' h''
  exact ⟨_, _, _, l, rfl, rfl, by show 5 ≤ sizeLine; decide, .cons ⟨_, rfl⟩ (.cons rfl (.cons ⟨_, rfl⟩ (.cons rfl (.cons ⟨_, rfl⟩ .nil))))⟩
end
theorem forms_mk {K : PySem.W.Frag} {mg : Str → Option Value} {b b0 b1 n0 n1 e e0 e1 n2 n3 h h0 h1 n4 : Addr} (g1 : mg "BLOCKS" = some (.ref b)) (g2 : mg "EXCEPTIONS" = some (.ref e)) (g3 : mg "HEADS" = some (.ref h))
    (s1 : StT K b [.ref b0, .ref b1]) (s2 : StT K b0 [.str (S (cBlk false)), .ref n0]) (s3 : StT K b1 [.str (S (cBlk true)), .ref n1]) (s4 : StT K n0 [.int 1, .int 16]) (s5 : StT K n1 [.int 1, .int 16])
    (u1 : StT K e [.ref e0, .ref e1]) (u2 : StT K e0 []) (u3 : StT K e1 [.str (S cExc), .ref n2, .str (S cOf), .ref n3, .str (S cBits)]) (u4 : StT K n2 [.int 1, .int 4]) (u5 : StT K n3 [.int 1, .int 24])
    (v1 : StT K h [.ref h0, .ref h1]) (v2 : StT K h0 []) (v3 : StT K h1 [.str (S cHead), .ref n4, .str (S cBits)]) (v4 : StT K n4 [.int 0, .int 64]) : Forms K mg :=
  ⟨b, b0, b1, n0, n1, e, e0, e1, n2, n3, h, h0, h1, n4, g1, s1, s2, s3, s4, s5, g2, u1, u2, u3, u4, u5, g3, v1, v2, v3, v4⟩
structure EqW (K : PySem.W.Frag) (C : Addr) : Prop where
  ni : PySem.W.subIn K (.type "int") (.ref C) = some false
  nb : PySem.W.subIn K (.type "bool") (.ref C) = some false
  ns : PySem.W.subIn K (.type "str") (.ref C) = some false
  ne : PySem.W.findIn K (.ref C) "__ne__" = some (some (.builtin "object.__ne__"))
theorem all_mk {l : PySem.W.OpenLaw} {w : World} {K : PySem.W.Frag} {h : Heap} {mg : Str → Option Value} {fa C CT : Addr} (X : K.In h) (G : h.Ns mainGlobals mg) (hfa : mg "law" = some (.ref fa))
    (T : Txt K mg) (TT : TxtT mg) (TX : TxtL K mg C) (FM : Forms K mg) (mkc : PySem.W.makesIn K C = true) (kp : PySem.W.keepIn K (.ref C) = true) (WT : ErrW K mg CT "BadText" "line" "column") (TQ : TxtQ K C) (TM : TxtM mg) (EW : EqW K C)
    (d8 : DefAt K mg "number_of" sNF) (d14 : DefAt K mg "read_layout" sRL) (d15 : DefAt K mg "told_layout" sTL) (d16 : DefAt K mg "read_form" sRF) (d17 : DefAt K mg "is_beginning" sIB) (d20 : DefAt K mg "told_numbers" sTN) (d21 : DefAt K mg "plain_layout" sPL)
    (d25 : DefAt K mg "_law_pen" sPen) (d26 : DefAt K mg "_law_draw" sDraw) (d27 : DefAt K mg "_law_pick" sPick) (d28 : DefAt K mg "_law_parts" sLP) (d29 : DefAt K mg "_law_parts_text" sPT) (d30 : DefAt K mg "_law_head" sLh) (d31 : DefAt K mg "_law_menus" sMn)
    (d32 : DefAt K mg "_law_fit" sFt) (d33 : DefAt K mg "_law_wrong_spot" sWS) (d34 : DefAt K mg "_law_text_parts" sTP) (d35 : DefAt K mg "_law_bent" sBt) (d36 : DefAt K mg "_law_read" sRd) (d37 : DefAt K mg "_law_is_told" sTd) (d38 : DefAt K mg "_law_is_equal_right" sEr) (d39 : DefAt K mg "law" sLaw)
    (t0 : MAt K CT "__init__" "BadText.__init__" sTI) (m0 : MAt K C "__init__" "Layout.__init__" sLI) (m1 : MAt K C "__eq__" "Layout.__eq__" sEQ) :
    ∃ fd : FuncData, (∀ (s : Shared) (v : Value), BindsTo s fd ⟨[v], []⟩ [("_law_script", v)]) ∧ ∀ base : Heap, K.In base → base.Ns mainGlobals mg → FnG l.prog w K mg base CX0 8 fa fd ["_law_script"] (spLaw K) := by
  obtain ⟨f, fd, F, hm⟩ := d39.ex
  have e := hfa.symm.trans hm
  cases e
  obtain ⟨oc, od, kV, doc, pm, an, cdv, ct, osl, rfl, lk, hcd⟩ := F.ex
  refine ⟨PySem.W.fnOf "law" "law" (defArgs sLaw) (defBody sLaw) (defScope sLaw) .none kV doc pm an cdv ct, fun s v => .of_eq rfl, fun base _ _ => ?_⟩
  have CD := ok_draw (P := l.prog) (w := w) (base := base) d26 T
  have CP := ok_pick (P := l.prog) (w := w) (base := base) d27 T CD
  obtain ⟨fT, fdT, FT, MT⟩ := t0.ex
  have TE := WT.txt MT
  have GT := ok_TI (P := l.prog) (w := w) (base := base) (mg := mg) FT TE
  have bT := FT.binds (ps := ["self", "line", "column"]) fun _ _ _ _ _ _ us hl => match us, hl with | [_, _, _], _ => rfl
  have CNF := ok_NF (P := l.prog) (w := w) (base := base) d8 T TT
  have CIB := ok_IB (P := l.prog) (w := w) (base := base) d17 T TT CNF
  have CRF := ok_RF (P := l.prog) (w := w) (base := base) d16 T TX CNF CIB
  have CTL := ok_TL (P := l.prog) (w := w) (base := base) d15 T
  have CRL := ok_RL (P := l.prog) (w := w) (base := base) d14 T TX FM TE GT bT CRF CTL
  obtain ⟨f0, fd0, F0, M0⟩ := m0.ex
  obtain ⟨f1, fd1, F1, M1⟩ := m1.ex
  have b0 := F0.binds (ps := ["self", "text"]) fun _ _ _ _ _ _ us hl => match us, hl with | [_, _], _ => rfl
  have b1 := F1.binds (ps := ["self", "other"]) fun _ _ _ _ _ _ us hl => match us, hl with | [_, _], _ => rfl
  have G0 := ok_LI (P := l.prog) (w := w) (base := base) F0 TX CRL
  have CTN := ok_TN (P := l.prog) (w := w) (base := base) d20 TX
  have G1 := ok_EQ (P := l.prog) (w := w) (base := base) F1 TX TQ CTN
  have MK : Mk K C f0 := ⟨mkc, M0.at_, M0.fn, kp⟩
  have BE : EqC K C f1 := ⟨M1.at_, M1.fn, EW.ni, EW.nb, EW.ns, EW.ne, TQ.hm⟩
  have CH := ok_Lh (P := l.prog) (w := w) (base := base) d30
  have CTP := ok_TP (P := l.prog) (w := w) (K := K) (base := base) d34 T
  have CPL := ok_PL (P := l.prog) (w := w) (base := base) d21 TX MK G0 b0
  have CF := ok_Ft (P := l.prog) (w := w) (base := base) d32 T TX
  obtain ⟨f37, fd37, F37, h37⟩ := d37.ex
  have GR : ClG l.prog w K mg base 7 "_law_is_told" (spTd C) := ⟨_, _, _, ok_Td F37 TX CTP CH, h37, F37.kp, F37.binds (ps := ["_law_layout", "_law_text"]) fun _ _ _ _ _ _ us hl => match us, hl with | [_, _], _ => rfl⟩
  exact ok_law F T TX TM MK G0 b0 BE G1 b1 (ok_pen d25 T) CD (ok_Mn d31 T TX) CPL GR (ok_Rd d36 TX TE MK G0 b0) (ok_LP d28 CD CP) (ok_PT d29 T TX) (ok_Bt d35 T CD CP) (ok_WS d33 T TM CF) (ok_Er d38 TX MK G0 b0 BE G1 b1 CTP CH)
theorem walk {l : PySem.W.OpenLaw} {q : Program} {loose : List Str} {XP : (Str → Option Value) → Heap → Prop} {YP : World → Heap → Prop} {d : DefRec} {K : Params → PySem.W.Frag} (hn : l.most = some 63) (hdf : d.params.defaults = [])
    (hY : ∀ (w : World) (h : Heap), YP w h → (K w.params).In h)
    (F : ∀ (w : World) (mg : Str → Option Value) (fa : Addr) (h : Heap), (K w.params).In h → h.Ns mainGlobals mg → mg d.name = some (.ref fa) →
      ∃ fd : FuncData, (∀ (s : Shared) (u : Value), BindsTo s fd ⟨[u], []⟩ [("_law_script", u)]) ∧ ∀ base : Heap, (K w.params).In base → base.Ns mainGlobals mg → FnG l.prog w (K w.params) mg base CX0 8 fa fd ["_law_script"] (spLaw (K w.params))) :
    PySem.W.WalkO q loose XP YP l.row.toRowW d [] (fun f vs => PySem.call f vs) :=
  walkG (n := 63) (k := 8) (x := "_law_script") (sp := fun w => spLaw (K w.params)) hn (by decide) hdf ⟨rfl, by decide, by decide⟩ hY F (fun _ _ a ns hl hS => ⟨a, ns, rfl, hS, fun _ => rfl⟩)
end Wq
set_option Elab.async false
set_option linter.all false
set_option maxRecDepth 100000
set_option maxHeartbeats 2000000
namespace Wq
open PySem PySem.Spec PyProof.Rows L2
theorem oex_mk {K : PySem.W.Frag} {C : Addr} {nm q : Str} {N : Addr} {bs bm : List Value} {sn : List Str} {sub : List Value} {ab : Bool} {col : Option Bool} {dd : Option Addr} {k0 k1 k2 k3 k5 : Option Value}
    (xL : K.lookup C = some (excClassObj nm q C N bs bm true sn sub ab col dd k0 k1 k2 k3 k5 "ValueError.__new__")) (rv : PySem.HandSPX.refsVE bm = true) (sa : PySem.W.findIn K (.ref C) "__setattr__" = some (some (.builtin "object.__setattr__")))
    (eC : PySem.W.subIn K (.ref C) (.type "BaseException") = some true) (tC : PySem.W.typeIn K (.ref C) = some (.type "type")) (kC : PySem.W.keepIn K (.ref C) = true) : OexC K C := ⟨⟨nm, q, N, bs, bm, sn, sub, ab, col, dd, k0, k1, k2, k3, k5, xL, rv⟩, sa, eC, tC, kC⟩
end Wq
open PySem PySem.W PyProof.Rows
set_option maxRecDepth 100000 in
set_option maxHeartbeats 0 in
theorem PySem.Challenge.cw_wordquarry_k33_texts_of_layouts_holds : PySem.Challenge.rw_wordquarry_k33_texts_of_layouts.Holds := by
  w_on; o_law; k_head; (case hw => w_witness2)
  k_fill
  refine Wq.walk (l := PySem.Challenge.rw_wordquarry_k33_texts_of_layouts) rfl rfl (fun w h Y => PySem.W.kIn_of Y) ?F
  case F =>
    intro w mg fa h KX G hmg
    refine' Wq.all_mk KX G hmg
      ⟨PySem.W.mg_none_of KX G ?z1, PySem.W.mg_none_of KX G ?z2, PySem.W.mg_none_of KX G ?z3, PySem.W.mg_none_of KX G ?z4, PySem.W.mg_none_of KX G ?z5, PySem.W.mg_none_of KX G ?z6⟩
      ⟨⟨_, PySem.W.mg_of KX G ?s1⟩, ⟨_, PySem.W.mg_of KX G ?s2⟩⟩
      ⟨⟨?c_pg, ?c_hd, ?c_po, ?c_sa⟩, ?c_n1, ?c_n2, ?c_n3, ?c_n4, ?c_n5, ?c_n6, PySem.W.mg_of KX G ?gC, PySem.W.mg_none_of KX G ?y1, PySem.W.mg_none_of KX G ?y2, PySem.W.mg_none_of KX G ?y3, PySem.W.mg_none_of KX G ?y4, PySem.W.mg_none_of KX G ?y5⟩
      (Wq.forms_mk (PySem.W.mg_of KX G ?gB) (PySem.W.mg_of KX G ?gE) (PySem.W.mg_of KX G ?gH) (Wq.stR ?f1) (Wq.stB ?f2 ?x1) (Wq.stB ?f3 ?x2) (Wq.stI ?f4) (Wq.stI ?f5) (Wq.stR ?f6) (Wq.st0 ?f7) (Wq.stE ?f8 ?x3 ?x4 ?x5) (Wq.stI ?f9) (Wq.stI ?f10) (Wq.stR ?f11) (Wq.st0 ?f12) (Wq.stH ?f13 ?x6 ?x7) (Wq.stI ?f14))
      ?w_mk ?w_kp
      ⟨Wq.oex_mk ?nxL ?nrv ?n_sa ?n_ex ?n_ty ?n_kp, ?n_n1, ?n_n2, PySem.W.mg_of KX G ?ng, ⟨?nx_ga, ?nx_gg, ?nx_ex, ?nx_hd⟩, PySem.W.exm_ref ?nm_ex ?nm_hd ?nm_ty ?nm_su⟩
      ⟨?q_ha, ?q_hn, ?q_htk, ?q_hm, ?q_kT⟩ ⟨PySem.W.mg_none_of KX G ?z7⟩ ⟨?e_ni, ?e_nb, ?e_ns, ?e_ne⟩
      ?d8 ?d14 ?d15 ?d16 ?d17 ?d20 ?d21 ?d25 ?d26 ?d27 ?d28 ?d29 ?d30 ?d31 ?d32 ?d33 ?d34 ?d35 ?d36 ?d37 ?d38 ?d39 ?t0 ?m0 ?m1
    (case gC => k_is)
    (case ng => k_is)
    (case gB => k_is)
    (case gE => k_is)
    (case gH => k_is)
    (case f1 => first | k_is | rfl)
    (case f2 => first | k_is | rfl)
    (case f3 => first | k_is | rfl)
    (case f4 => first | k_is | rfl)
    (case f5 => first | k_is | rfl)
    (case f6 => first | k_is | rfl)
    (case f7 => first | k_is | rfl)
    (case f8 => first | k_is | rfl)
    (case f9 => first | k_is | rfl)
    (case f10 => first | k_is | rfl)
    (case f11 => first | k_is | rfl)
    (case f12 => first | k_is | rfl)
    (case f13 => first | k_is | rfl)
    (case f14 => first | k_is | rfl)
    (case x1 => first | decide +kernel | rfl)
    (case x2 => first | decide +kernel | rfl)
    (case x3 => first | decide +kernel | rfl)
    (case x4 => first | decide +kernel | rfl)
    (case x5 => first | decide +kernel | rfl)
    (case x6 => first | decide +kernel | rfl)
    (case x7 => first | decide +kernel | rfl)
    (case d8 => (refine' Wq.def_mk KX G ?a ?l ?c ?k; (case a => k_is); (case l => k_is); (case c => k_is); (case k => k_is)))
    (case d14 => (refine' Wq.def_mk KX G ?a ?l ?c ?k; (case a => k_is); (case l => k_is); (case c => k_is); (case k => k_is)))
    (case d15 => (refine' Wq.def_mk KX G ?a ?l ?c ?k; (case a => k_is); (case l => k_is); (case c => k_is); (case k => k_is)))
    (case d16 => (refine' Wq.def_mk KX G ?a ?l ?c ?k; (case a => k_is); (case l => k_is); (case c => k_is); (case k => k_is)))
    (case d17 => (refine' Wq.def_mk KX G ?a ?l ?c ?k; (case a => k_is); (case l => k_is); (case c => k_is); (case k => k_is)))
    (case d20 => (refine' Wq.def_mk KX G ?a ?l ?c ?k; (case a => k_is); (case l => k_is); (case c => k_is); (case k => k_is)))
    (case d21 => (refine' Wq.def_mk KX G ?a ?l ?c ?k; (case a => k_is); (case l => k_is); (case c => k_is); (case k => k_is)))
    (case d25 => (refine' Wq.def_mk KX G ?a ?l ?c ?k; (case a => k_is); (case l => k_is); (case c => k_is); (case k => k_is)))
    (case d26 => (refine' Wq.def_mk KX G ?a ?l ?c ?k; (case a => k_is); (case l => k_is); (case c => k_is); (case k => k_is)))
    (case d27 => (refine' Wq.def_mk KX G ?a ?l ?c ?k; (case a => k_is); (case l => k_is); (case c => k_is); (case k => k_is)))
    (case d28 => (refine' Wq.def_mk KX G ?a ?l ?c ?k; (case a => k_is); (case l => k_is); (case c => k_is); (case k => k_is)))
    (case d29 => (refine' Wq.def_mk KX G ?a ?l ?c ?k; (case a => k_is); (case l => k_is); (case c => k_is); (case k => k_is)))
    (case d30 => (refine' Wq.def_mk KX G ?a ?l ?c ?k; (case a => k_is); (case l => k_is); (case c => k_is); (case k => k_is)))
    (case d31 => (refine' Wq.def_mk KX G ?a ?l ?c ?k; (case a => k_is); (case l => k_is); (case c => k_is); (case k => k_is)))
    (case d32 => (refine' Wq.def_mk KX G ?a ?l ?c ?k; (case a => k_is); (case l => k_is); (case c => k_is); (case k => k_is)))
    (case d33 => (refine' Wq.def_mk KX G ?a ?l ?c ?k; (case a => k_is); (case l => k_is); (case c => k_is); (case k => k_is)))
    (case d34 => (refine' Wq.def_mk KX G ?a ?l ?c ?k; (case a => k_is); (case l => k_is); (case c => k_is); (case k => k_is)))
    (case d35 => (refine' Wq.def_mk KX G ?a ?l ?c ?k; (case a => k_is); (case l => k_is); (case c => k_is); (case k => k_is)))
    (case d36 => (refine' Wq.def_mk KX G ?a ?l ?c ?k; (case a => k_is); (case l => k_is); (case c => k_is); (case k => k_is)))
    (case d37 => (refine' Wq.def_mk KX G ?a ?l ?c ?k; (case a => k_is); (case l => k_is); (case c => k_is); (case k => k_is)))
    (case d38 => (refine' Wq.def_mk KX G ?a ?l ?c ?k; (case a => k_is); (case l => k_is); (case c => k_is); (case k => k_is)))
    (case d39 => (refine' Wq.def_mk KX G ?a ?l ?c ?k; (case a => k_is); (case l => k_is); (case c => k_is); (case k => k_is)))
    (case t0 => (refine' Wq.m_mk ?a ?i ?l ?c ?k; (case a => k_is); (case i => k_is); (case l => k_is); (case c => k_is); (case k => k_is)))
    (case m0 => (refine' Wq.m_mk ?a ?i ?l ?c ?k; (case a => k_is); (case i => k_is); (case l => k_is); (case c => k_is); (case k => k_is)))
    (case m1 => (refine' Wq.m_mk ?a ?i ?l ?c ?k; (case a => k_is); (case i => k_is); (case l => k_is); (case c => k_is); (case k => k_is)))
    (case nxL => first | k_is | rfl)
    (case nrv => first | rfl | decide +kernel)
    (case z1 => first | k_is | rfl)
    (case z2 => first | k_is | rfl)
    (case z3 => first | k_is | rfl)
    (case z4 => first | k_is | rfl)
    (case z5 => first | k_is | rfl)
    (case z6 => first | k_is | rfl)
    (case z7 => first | k_is | rfl)
    (case y1 => first | k_is | rfl)
    (case y2 => first | k_is | rfl)
    (case y3 => first | k_is | rfl)
    (case y4 => first | k_is | rfl)
    (case y5 => first | k_is | rfl)
    (case s1 => first | k_is | rfl)
    (case s2 => first | k_is | rfl)
    (case c_pg => first | k_is | rfl)
    (case c_hd => first | k_is | rfl)
    (case c_po => first | k_is | rfl)
    (case c_sa => first | k_is | rfl)
    (case c_n1 => first | k_is | rfl)
    (case c_n2 => first | k_is | rfl)
    (case c_n3 => first | k_is | rfl)
    (case c_n4 => first | k_is | rfl)
    (case c_n5 => first | k_is | rfl)
    (case c_n6 => first | k_is | rfl)
    (case w_mk => first | k_is | rfl)
    (case w_kp => first | k_is | rfl)
    (case n_sa => first | k_is | rfl)
    (case n_ex => first | k_is | rfl)
    (case n_ty => first | k_is | rfl)
    (case n_kp => first | k_is | rfl)
    (case n_n1 => first | k_is | rfl)
    (case n_n2 => first | k_is | rfl)
    (case nx_ga => first | k_is | rfl)
    (case nx_gg => first | k_is | rfl)
    (case nx_ex => first | k_is | rfl)
    (case nx_hd => first | k_is | rfl)
    (case nm_ex => first | k_is | rfl)
    (case nm_hd => first | k_is | rfl)
    (case nm_ty => first | k_is | rfl)
    (case nm_su => first | k_is | rfl)
    (case q_ha => first | k_is | rfl)
    (case q_hn => first | k_is | rfl)
    (case q_htk => first | k_is | rfl)
    (case q_hm => first | k_is | rfl)
    (case q_kT => first | k_is | rfl)
    (case e_ni => first | k_is | rfl)
    (case e_nb => first | k_is | rfl)
    (case e_ns => first | k_is | rfl)
    (case e_ne => first | k_is | rfl)
