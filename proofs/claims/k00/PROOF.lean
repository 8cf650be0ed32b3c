import PyProof.Rows.All
import Wide.All
import OpenK.AllK
import Wide.FinOn
import HandS.Base
import HandS.Call
import HandS.List
import HandS.Ends
import HandS.Words
import HandS.Dict
import HandS.Set
import HandS.Strs
import HandS.SetBool
import HandS.SetTxtIn
import PyProof.FactsAll.set_2
import HandS.ExcInit
import HandS.ExcField
import HandS.ExcIs
import HandS.ExcValue
import HandS.ExcOwn
import HandS.IsInst
import KE.KExcIs
import HandS.Comp
import HandS.Iter
import HandS.Text
import HandS.WordsList
import HandS.Codes
import HandS.Style
import HandS.Wide
import PyProof.TupleOfStr
import HandS.Walk
import HandS.WordsExc
import PyProof.StrLawsRepr
import HandS.DeepEq
import PySem.Challenge.RW_wordquarry_k00_errors_and_signs
set_option Elab.async false
set_option linter.all false
set_option maxRecDepth 100000
set_option maxHeartbeats 2000000
/-! promises of defs that are called where nothing is being shown (repr is known there) -/
namespace Wq
open PySem PySem.Spec PyProof.Rows L2
structure FnG (P : Program) (w : World) (K : PySem.W.Frag) (mg : Str → Option Value) (base : Heap) (CX : CXT) (k : Nat) (f : Addr) (fd : FuncData) (ps : List Str) (sp : Sp) : Prop where
  len : ∀ vs H Q E, sp vs H Q E → vs.length = ps.length
  go : ∀ (A : Around), Room k A → A.guards = some [] → ∀ (outer : List Env) (s : Shared) (H : Hp) (args : Args) (us : List Value) (vs : List V) (Q : VK) (E : XK), Env0 P w K mg base A outer s H → BindsTo s fd args (ps.zip us) → Vals vs us → sp vs H Q E → codeAny (model P w) A (.call (.ref f) args) (CR CX outer P w H s Q E) s
section
variable {P : Program} {w : World} {K : PySem.W.Frag} {mg : Str → Option Value} {base : Heap} {CX : CXT} {k : Nat} {f : Addr} {fd : FuncData} {ps : List Str} {sp : Sp}
theorem FnG.of (F : FnOk P w K mg base CX k f fd ps sp) : FnG P w K mg base CX k f fd ps sp := ⟨F.len, fun A hr _ outer s H args us vs Q E => F.run A outer s H args us vs Q E hr⟩
theorem FnG.mono {j : Nat} (F : FnG P w K mg base CX j f fd ps sp) (h : j ≤ k) : FnG P w K mg base CX k f fd ps sp := ⟨F.len, fun A hr hg => F.go A (hr.mono h) hg⟩
end
theorem deep_g {A : Around} {e : Env} (h : A.guards = some []) : (A.deeper e).guards = some [] := h
/-- a def by its body, where nothing is being shown -/
theorem fnG_of {CX : CXT} {P : Program} {w : World} {K : PySem.W.Frag} {mg : Str → Option Value} {base : Heap} {k : Nat} {f : Addr} {x qual : Str} {pm : Arguments} {body : List Stmt} {sc : Scope} {dV kV doc pv cdv ct oc : Value} {an od : Option Addr} {osl : Array (Option Value)} {N ps : List Str} {sp : Sp}
    (lk : K.lookup f = some ⟨oc, od, .func (PySem.W.fnOf x qual pm body sc dV kV doc pv an cdv ct), osl⟩) (hcd : PySem.W.codeIn K cdv qual = true) (S : FnScope N ps sc) (len : ∀ vs H Q E, sp vs H Q E → vs.length = ps.length)
    (hbody : ∀ (A : Around), A.guards = some [] → ∀ (outer : List Env) (s : Shared) (H : Hp) (vs : List V) (Q : VK) (E : XK), Room k (A.deeper (envOfC qual sc s.heap.objs.size f cdv)) → sp vs H Q E →
      ∃ t, PSs (cxOf CX P w K mg base N qual sc f cdv A outer s H E) body t ∧ t { nx := fun _ H' => Q .non H', rt := Q } (start N vs) H) :
    FnG P w K mg base CX (k + 1) f (PySem.W.fnOf x qual pm body sc dV kV doc pv an cdv ct) ps sp := by
  refine ⟨len, fun A hr hg outer s H args us vs Q E e0 hb r hsp => ?_⟩
  obtain ⟨t, ht, hq⟩ := hbody A hg outer s H vs Q E (hr.deeper _) hsp
  have up : ∀ b o, base.get? b = some o → s.heap.get? b = some o := fun b o e => (e0.bs b o e).1
  have KX : K.In s.heap := e0.mod.kin.keeps up
  have kinds : ∀ y ∈ ps.zip us, sc.names.lookup y.1 = some .local ∨ (sc.names.lookup y.1 = some .cell ∧ ((cellsFrom (s.heap.objs.size + 1) sc.names []).lookup y.1).isSome = true) := by
    rintro ⟨n, v⟩ hy
    exact (S.par n (List.of_mem_zip hy).1).imp id fun q => ⟨q, PySem.W.cellsFrom_some _ _ _ (.inl q)⟩
  refine codeAny_call_function hr.depth (KX _ _ lk) rfl S.co S.gen rfl (PySem.W.codeRec_of KX hcd) (hb _ _ _ _ (wpAny_newFunctionEnv_cells S.kind kinds fun env he s1 x => ?_))
  subst he
  refine ⟨(e0.mod.nolimit.keeps up).keeps x.toInCall.keep, codeAny_func ?_⟩
  refine wpAny_mono (ht.run [] s1 (start N vs) H _ (inv_start S hr.hd e0 (len _ _ _ _ hsp) r x) hq) (fun fl s' hs => ?_) fun _ _ hs => hs
  cases fl with
  | brk => obtain ⟨_, _, _, q⟩ := hs; exact q.elim
  | cont => obtain ⟨_, _, _, q⟩ := hs; exact q.elim
  | next =>
    obtain ⟨σ', H', J, q⟩ := hs
    exact ⟨.non, H', J.os, J.bare, J.base, J.hok, rfl, q⟩
  | ret u =>
    obtain ⟨v, σ', H', J, rv, q⟩ := hs
    exact ⟨v, H', J.os, J.bare, J.base, J.hok, rv, q⟩
section
variable {X : Cx} {CX : CXT} {k : Nat} {f : Addr} {fd : FuncData} {ps : List Str} {sp : Sp} {ds : List Value} {dvs : List V} {E : XK} {x : Str} {p pos : Pos} {e : Expr} {es : List Expr} {t : TA}
theorem run_g {pins : List (Addr × Obj)} {σ : L2.St} {H : Hp} {s : Shared} {Q : VK} {us : List Value} {vs : List V} (F : FnG X.prog X.w X.K X.mg X.base CX k f fd ps sp) (hr : Room k X.A) (hG : X.A.guards = some []) (hb : Binds X.K fd ps ds) (hd : Vals dvs ds) (hx : Passes CX X E)
    (I : Inv X pins σ H s) (r : Vals vs us) (h : sp (vs ++ dvs) H Q E) : wpAny (model X.prog X.w) X.A (call (.ref f) us) (EP X pins σ Q) X.xe s := by
  have r2 := r.append hd
  have hl : (us ++ ds).length = ps.length := r2.length.symm.trans (F.len _ _ _ _ h)
  refine wpAny_call (codeAny_mono (F.go X.A hr hG X.stack s H ⟨us, []⟩ _ _ Q E I.env0 (hb s us I.kIn hl) r2 h) fun r s' hq => ?_)
  match r, hq with
  | .error e, hq => exact hx pins σ H s e s' I hq
  | .ok (.ret u), hq => exact I.after hq
theorem pe_callG (F : FnG X.prog X.w X.K X.mg X.base CX k f fd ps sp) (hr : Room k X.A) (hG : X.A.guards = some []) (hg : Gl X x) (hm : X.mg x = some (.ref f)) (hk : PySem.W.keepIn X.K (.ref f) = true) (hb : Binds X.K fd ps ds) (hd : Vals dvs ds) (hx : Passes CX X E) (ha : PA X (e :: es) t)
    (hdb : (x == ("__debug__" : Str)) = false := by decide) (he : starEach (e :: es) X.env = (false, eval e X.env) :: starEach es X.env := by rfl) (hpl : (backTo pos (starEach es X.env)).any (·.1) = false := by rfl) : PE X (.Call (.Name x p) (e :: es) [] pos) (tCall sp dvs E t) :=
  ⟨fun pins s σ H Q I h => wpAny_Call_Name_kw (ld_glob I hg hm (PySem.W.callWith_K (h₀ := X.base) I.ok.mod.kin hk (thn (ha.run pos pins s σ H _ I h) fun us s1 ⟨vs, H1, I1, r, q⟩ => ⟨I1.kIn, run_g F hr hG hb hd hx I1 r q⟩) he hpl) hdb)⟩
end
end Wq
set_option Elab.async false
set_option linter.all false
set_option maxRecDepth 100000
set_option maxHeartbeats 2000000
/-! repr where nothing is being shown: flat values, {}, lists and tuples of them, two deep -/
namespace Wq
open PySem PySem.Spec PyProof.Rows L2
mutual
/-- what a value shows -/
inductive Sh (K : PySem.W.Frag) (H : Hp) : V → PyData → Prop
  | non : Sh K H .non .none
  | bl (b : Bool) : Sh K H (.bl b) (.bool b)
  | int (i : Int) : Sh K H (.int i) (.int i)
  | str (x : Str) : Sh K H (.str x) (.str x)
  | emp {a : Addr} : H a = some (.dK []) → Sh K H (.ref a) (.dict [])
  | lst {a : Addr} {xs : List V} {ds : List PyData} : SqL K H a xs → a ≠ sysModules → ShAll K H xs ds → Sh K H (.ref a) (.list ds)
  | tup {a : Addr} {xs : List V} {ds : List PyData} : SqT K H a xs → ShAll K H xs ds → Sh K H (.ref a) (.tuple ds)
inductive ShAll (K : PySem.W.Frag) (H : Hp) : List V → List PyData → Prop
  | nil : ShAll K H [] []
  | cons {v : V} {vs : List V} {d : PyData} {ds : List PyData} : Sh K H v d → ShAll K H vs ds → ShAll K H (v :: vs) (d :: ds)
end
section
variable {X : Cx} {pins : List (Addr × Obj)} {σ : L2.St} {H : Hp} {s : Shared}
mutual
theorem Sh.reads (I : Inv X pins σ H s) : ∀ (d : PyData) (v : V) (u : Value), Sh X.K H v d → RelV v u → ∃ as, Reads s.heap u d as ∧ sysModules ∉ as
  | .none, _, _, h, r => by
    cases h; cases r
    exact ⟨_, .none, by simp⟩
  | .bool b, _, _, h, r => by
    cases h; cases r
    exact ⟨_, .bool b, by simp⟩
  | .int i, _, _, h, r => by
    cases h
    obtain ⟨t, rfl⟩ := r
    exact ⟨_, .int i t, by simp⟩
  | .str x, _, _, h, r => by
    cases h
    obtain ⟨t, rfl⟩ := r
    exact ⟨_, .str x t, by simp⟩
  | .list ds, _, _, h, r => by
    cases h with
    | lst hs na ha =>
      cases r
      obtain ⟨its, rv, ⟨o, n, ho, hc, _, hd⟩, _⟩ := I.list hs
      obtain ⟨as, hr, hn⟩ := Sh.readsAll I ds _ its ha rv
      refine ⟨_, .list ho hc hd hr, fun z => ?_⟩
      rcases List.mem_cons.mp z with e | e
      · exact na e.symm
      · exact hn e
  | .tuple ds, _, _, h, r => by
    cases h with
    | tup hs ha =>
      cases r
      obtain ⟨its, rv, ⟨o, ho, hc, n, hd⟩, _⟩ := I.tuple hs
      obtain ⟨as, hr, hn⟩ := Sh.readsAll I ds _ its ha rv
      exact ⟨_, .tuple ho hc hd hr, hn⟩
  | .dict kvs, _, _, h, r => by
    cases h with
    | @emp a he =>
      cases r
      obtain ⟨_, hs, vs, kv, o, es, ep, ho, hx, hd, _, hp, _⟩ := I.hok a _ he
      cases kv
      cases hl : es.toList with
      | cons e l =>
        rw [hl] at hp
        cases hp
      | nil =>
        refine ⟨_, .dict ho hx.1 hd (as := []) (bs := []) (by rw [hl]; exact .nil) (by rw [hl]; exact .nil), fun z => ?_⟩
        have z : sysModules = a := by simpa using z
        rw [← z] at hs
        simp at hs
theorem Sh.readsAll (I : Inv X pins σ H s) : ∀ (ds : List PyData) (vs : List V) (us : List Value), ShAll X.K H vs ds → Vals vs us → ∃ as, ReadsAll s.heap us ds as ∧ sysModules ∉ as
  | [], _, _, h, r => by
    cases h; cases r
    exact ⟨_, .nil, by simp⟩
  | d :: ds, _, _, h, r => by
    cases h with
    | cons h1 h2 =>
      cases r with
      | cons r1 r2 =>
        obtain ⟨as, q1, n1⟩ := Sh.reads I d _ _ h1 r1
        obtain ⟨bs, q2, n2⟩ := Sh.readsAll I ds _ _ h2 r2
        refine ⟨_, .cons q1 q2, fun z => ?_⟩
        rcases List.mem_append.mp z with e | e
        · exact n1 e
        · exact n2 e
end
end
def rRepr (K : PySem.W.Frag) : List V → Hp → VK → Prop := fun xs H Q => ∃ (v : V) (d : PyData), xs = [v] ∧ Sh K H v d ∧ d.showable = true ∧ d.depth ≤ 60 ∧ d.shown.length ≤ sizeLine ∧ Q (.str d.shown) H
theorem call_repr {X : Cx} (hG : X.A.guards = some []) (hu : X.A.units + 64 < cLine) : CallR X (.builtin "repr") (rRepr X.K) := by
  intro pins s σ H xs us Q I r h
  obtain ⟨v, d, rfl, hv, hs, hd, hl, q⟩ := h
  obtain ⟨u, rfl, ru⟩ := vals1 r
  obtain ⟨as, rd, na⟩ := hv.reads I d v u ru
  have big : ∀ a, u = .ref a → wpAny (model X.prog X.w) X.A (call (.builtin "repr") [u]) (EP X pins σ Q) X.xe s := by
    rintro a rfl
    exact PySem.repr_of_reads' rd hs (fun _ => na) hG (by omega) (fun _ _ e => e) (fun h' u tk hk => ⟨.str d.shown, H, I.kept hk, ⟨u, rfl⟩, q⟩) hl
  cases hv with
  | non => cases ru; exact PySem.P.repr_of_none ⟨.str _, H, I.tok _, ⟨_, rfl⟩, q⟩
  | bl b => cases ru; exact PySem.P.repr_of_bool ⟨.str _, H, I.tok _, ⟨_, rfl⟩, q⟩
  | int i => obtain ⟨t, rfl⟩ := ru; exact PySem.P.repr_of_int (of_decide_eq_true hs) ⟨.str _, H, I.tok _, ⟨_, rfl⟩, q⟩
  | str x => obtain ⟨t, rfl⟩ := ru; exact PySem.P.repr_of_str (h := ⟨.str _, H, I.tok _, ⟨_, rfl⟩, q⟩) (hsz := hl)
  | emp e => exact big _ ru
  | lst a b c => exact big _ ru
  | tup a b => exact big _ ru
/-- a new list, apart from the dict of modules -/
def tLstN (t : TA) : TE := fun σ H Q => t σ H fun xs H1 => xs.length ≤ sizeLine ∧ ∀ p, H1 p = none → p ≠ sysModules → Q (.ref p) (upd H1 p (.lst xs))
theorem pe_lstN {X : Cx} {es : List Expr} {t : TA} {pos : Pos} (h : PA X es t) : PE X (.List es pos) (tLstN t) := by
  refine ⟨fun pins s σ H Q I hq => wpAny_List_spliced (thn (h.run pos pins s σ H _ I hq) fun us s1 ⟨xs, H1, I1, r, z, q⟩ => ⟨by rw [← r.length]; exact z, ?_⟩)⟩
  have hf : H1 s1.heap.objs.size = none := I1.hok.fresh (Nat.le_refl _)
  have hb := I1.big
  exact ⟨.ref s1.heap.objs.size, upd H1 s1.heap.objs.size (.lst xs), I1.laid (t' := s1.toks) (fun b u e => Heap.get?_push_of_some _ e) (Nat.le_refl _) ⟨z, us, 0, r, Heap.get?_push_size _ rfl⟩, rfl, q _ hf (Nat.ne_of_gt hb)⟩
end Wq
set_option Elab.async false
set_option linter.all false
set_option maxRecDepth 100000
set_option maxHeartbeats 2000000
/-! the end: the law is called where nothing is being shown -/
namespace Wq
open PySem PySem.Spec PyProof.Rows L2
theorem callG {P : Program} {w : World} {K : PySem.W.Frag} {mg mb : Str → Option Value} {CX : CXT} {k : Nat} {fa a : Addr} {fd : FuncData} {x : Str} {sp : Sp} {s : Shared} {vs : List Value} {ns : List Int} {n : Nat}
    (KX : K.In s.heap) (hns : s.heap.Ns mainGlobals mg) (hb : s.heap.Ns builtinsNs mb) (hbb : ∀ x : Str, x ≠ "__name__" → mb x = bootBuiltins x) (hlim : s.heap.NoLimit) (hg : s.gens = #[])
    (ha : s.heap.get? a = some { cls := .type "list", data := .seq vs.toArray }) (hi : IntsAre vs ns) (hl : ns.length ≤ n) (hn : n ≤ sizeLine) (hr : Room k callerA)
    (F : ∀ base : Heap, K.In base → base.Ns mainGlobals mg → FnG P w K mg base CX k fa fd [x] sp) (hbind : ∀ (s : Shared) (u : Value), BindsTo s fd ⟨[u], []⟩ [(x, u)])
    (hsp : ∀ H : Hp, Only H → SqL K H a (ns.map V.int) → sp [.ref a] H (fun v _ => v = .bl true) fun _ _ _ => False) (hCX : ∀ H e s', CX [] H s (fun _ _ _ => False) e s' → False) :
    codeAny (model P w) callerA (.call (.ref fa) ⟨[.ref a], []⟩) (fun r s' => r = .ok (.ret (.bool true)) ∧ OldK s.heap s'.heap ∧ s'.os = s.os ∧ AllBare s'.gens) s := by
  have rv := vals_ints hi
  have hz : (ns.map V.int).length ≤ sizeLine := by rw [List.length_map]; omega
  -- nothing but a is tracked in H
  have main : ∀ H : Hp, Only H → SqL K H a (ns.map V.int) → HOk P w H s.heap → (∀ b, H b ≠ none → b = a) → (H a ≠ none → K.lookup a = none) → codeAny (model P w) callerA (.call (.ref fa) ⟨[.ref a], []⟩) (fun r s' => r = .ok (.ret (.bool true)) ∧ OldK s.heap s'.heap ∧ s'.os = s.os ∧ AllBare s'.gens) s := by
    intro H hO hS ok only apart
    have nob : ∀ {b : Addr}, b ≠ a → H b = none := fun {b} h => Classical.byContradiction fun z => h (only b z)
    have hdict : ∀ {b : Addr} {m : Str → Option Value}, s.heap.Ns b m → (hidT s.heap H).Ns b m := by
      rintro b m ⟨o, es, ep, e, d, r⟩
      refine ⟨o, es, ep, hidT_get e (nob fun z => ?_), d, r⟩
      subst z
      rw [ha] at e
      cases e
      cases d
    have hKb : K.In (hidT s.heap H) := fun b o e => hidT_get (KX b o e) <| by
      by_cases hba : b = a
      · subst hba
        refine Classical.byContradiction fun z => ?_
        rw [apart z] at e
        cases e
      · exact nob hba
    obtain ⟨mc, c1, c2⟩ := hlim
    have e0 : Env0 P w K mg (hidT s.heap H) callerA [] s H := ⟨rfl, ⟨hKb, hdict hns, ⟨mb, hdict hb, hbb⟩, ⟨mc, hdict c1, c2⟩⟩, fun b o e => of_hidT e, Nat.le_of_eq (hidT_size _ _), trivial, fun b hb => (nomatch hb), ok, .of_eq hg⟩
    refine codeAny_mono ((F _ hKb (hdict hns)).go callerA hr rfl [] s H ⟨[.ref a], []⟩ [.ref a] [.ref a] _ _ e0 (hbind s (.ref a)) (.cons rfl .nil) (hsp H hO hS)) fun r s' h => ?_
    match r, h with
    | .error e, h => exact (hCX H e s' h).elim
    | .ok (.ret u), h =>
      obtain ⟨v, H', os, bare, un, ok', r', q⟩ := h
      have q : v = .bl true := q
      subst q
      have r' : u = Value.bool true := r'
      subst r'
      refine ⟨rfl, OldK.of_keep fun b o e => ?_, os, bare⟩
      rcases hO b with z | ⟨ob, xs, z⟩
      · exact un.keep b o e z (fun z => nomatch z) (fun z => nomatch z)
      · obtain ⟨e1, _⟩ := ok b _ z
        obtain ⟨e2, _⟩ := ok' b _ (un.frzs b ob _ z)
        rw [e1] at e
        cases e
        exact e2
  cases hk : K.lookup a with
  | some o =>
    have e := KX a o hk
    rw [ha] at e
    cases e
    exact main (fun _ => none) (fun _ => .inl rfl) (.inr ⟨_, vs.toArray, _, hk, rfl, rfl, rfl, by rw [List.size_toArray, hi.length]; omega, by simpa using rv⟩) (fun b u z => nomatch z) (fun b z => absurd rfl z) (fun z => absurd rfl z)
  | none =>
    let o : HO := .frz { cls := .type "list", data := .seq vs.toArray } (.lst (ns.map V.int))
    have h0 : upd (fun _ => none) a o a = some o := upd_same
    have h1 : ∀ {b}, b ≠ a → upd (fun _ => none) a o b = none := fun {b} h => upd_ne h
    refine main (upd (fun _ => none) a o) (fun b => ?_) (.inl (.inr ⟨_, h0⟩)) (fun b u z => ?_) (fun b z => Classical.byContradiction fun n => z (h1 n)) fun _ => hk
    · by_cases hb : b = a
      · rw [hb]; exact .inr ⟨_, _, h0⟩
      · exact .inl (h1 hb)
    · by_cases hb : b = a
      · subst hb
        rw [h0] at z
        cases z
        exact ⟨ha, hz, vs, _, rv, ha⟩
      · rw [h1 hb] at z
        cases z
theorem walkG {l : PySem.W.OpenLaw} {n k : Nat} {q : Program} {loose : List Str} {XP : (Str → Option Value) → Heap → Prop} {YP : World → Heap → Prop} {d : DefRec} {K : Params → PySem.W.Frag} {sp : World → Sp} {x : Str}
    (hn : l.most = some n) (hn2 : n ≤ sizeLine) (hdf : d.params.defaults = []) (hr : Room k callerA) (hY : ∀ (w : World) (h : Heap), YP w h → (K w.params).In h)
    (F : ∀ (w : World) (mg : Str → Option Value) (fa : Addr) (h : Heap), (K w.params).In h → h.Ns mainGlobals mg → mg d.name = some (.ref fa) →
      ∃ fd : FuncData, (∀ (s : Shared) (u : Value), BindsTo s fd ⟨[u], []⟩ [(x, u)]) ∧ ∀ base : Heap, (K w.params).In base → base.Ns mainGlobals mg → FnG l.prog w (K w.params) mg base CX0 k fa fd [x] (sp w))
    (hsp : ∀ (w : World) (H : Hp) (a : Addr) (ns : List Int), ns.length ≤ n → SqL (K w.params) H a (ns.map V.int) → sp w [.ref a] H (fun v _ => v = .bl true) fun _ _ _ => False) :
    PySem.W.WalkO q loose XP YP l.row.toRowW d [] (fun f vs => PySem.call f vs) := by
  refine Att.attach_call hn hdf fun w s₀ s₁ mg mb fa o pm cd doc a vs ns G Y ho hd hcd hmg hobj hints hlen hg => ?_
  obtain ⟨fd, hb, hF⟩ := F w mg fa _ (hY w _ Y) G.T.g hmg
  exact callG (hY w _ Y) G.T.g G.T.b G.T.builtins G.T.nolimit hg hobj hints hlen hn2 hr hF hb (fun H _ hS => hsp w H a ns hlen hS) fun _ _ _ z => z
end Wq
set_option Elab.async false
set_option linter.all false
set_option maxRecDepth 100000
set_option maxHeartbeats 2000000
/-! sets of the signs of texts, and their difference -/
namespace Wq
open PySem PySem.Spec PyProof.Rows
namespace SD
abbrev sg (c : Nat) : Str := ⟨#[c]⟩
theorem sg_inj {a b : Nat} : sg a = sg b ↔ a = b := by
  refine ⟨fun h => ?_, fun h => by rw [h]⟩
  have := congrArg (fun z : Str => z.cps.toList) h
  simpa using this
def mem (l : List Nat) (k : Str) : Bool := l.any fun c => decide (k = sg c)
theorem mem_sg {l : List Nat} {c : Nat} : mem l (sg c) = decide (c ∈ l) := by
  unfold mem
  rw [Bool.eq_iff_iff]
  simp only [List.any_eq_true, decide_eq_true_eq]
  constructor
  · rintro ⟨d, hd, e⟩
    rw [sg_inj] at e
    rw [e]; exact hd
  · intro h
    exact ⟨c, h, rfl⟩
/-- how many unlike signs -/
def dnum : List Nat → Nat
  | [] => 0
  | c :: r => if c ∈ r then dnum r else dnum r + 1
theorem dnum_le : ∀ l : List Nat, dnum l ≤ l.length
  | [] => Nat.le_refl _
  | c :: r => by
    have := dnum_le r
    unfold dnum
    split <;> simp <;> omega
section
variable {prog : Program} {w : World} {A : Around} {E : Value → Shared → Prop} {s : Shared}
/-- a loop in which nothing happens -/
theorem forIdle {α β : Type} {b : β} {f : α → β → Sem (ForInStep β)} {Q : β → Shared → Prop} : ∀ (l : List α), (∀ e ∈ l, f e b = pure (.yield b)) → Q b s → wpAny (model prog w) A (forIn l b f) Q E s
  | [], _, h => wpAny_pure h
  | e :: l, he, h => by
    rw [List.forIn_cons, he e List.mem_cons_self]
    refine wpAny_bind (wpAny_pure ?_)
    exact forIdle l (fun e h => he e (List.mem_cons_of_mem _ h)) h
theorem forIdleA {α β : Type} {b : β} {f : α → β → Sem (ForInStep β)} {Q : β → Shared → Prop} (l : Array α) (he : ∀ e ∈ l.toList, f e b = pure (.yield b)) (h : Q b s) : wpAny (model prog w) A (forIn l b f) Q E s := by
  rw [← Array.forIn_toList]
  exact forIdle l.toList he h
def IsT (h : Heap) (a : Addr) : Prop := ∃ o es ep t, h.get? a = some o ∧ o.data = .set es ep t ∧ t.fits es.size = true ∧ ∀ e ∈ es.toList, ∃ x u, e.2 = Value.str x u
theorem quiet {Q : Bool → Shared → Prop} (h : Q true s) : ∀ l : List Addr, (∀ a ∈ l, IsT s.heap a) → wpAny (model prog w) A (setsQuiet l) Q E s := by
  intro l hl
  unfold setsQuiet
  have main : ∀ l : List Addr, (∀ a ∈ l, IsT s.heap a) → ∀ {f : Addr → Option Bool × Unit → Sem (ForInStep (Option Bool × Unit))} {Q' : Option Bool × Unit → Shared → Prop},
      (∀ a, IsT s.heap a → ∀ (Q2 : ForInStep (Option Bool × Unit) → Shared → Prop), Q2 (.yield (none, ())) s → wpAny (model prog w) A (f a (none, ())) Q2 E s) → Q' (none, ()) s → wpAny (model prog w) A (forIn l (none, ()) f) Q' E s := by
    intro l
    induction l with
    | nil => intro _ f Q' _ hq; exact wpAny_pure hq
    | cons a l ih =>
      intro hl f Q' hf hq
      rw [List.forIn_cons]
      exact wpAny_bind (hf a (hl a List.mem_cons_self) _ (ih (fun b hb => hl b (List.mem_cons_of_mem _ hb)) hf hq))
  refine wpAny_bind (main l hl (fun a ha Q2 h2 => ?_) (wpAny_pure h))
  obtain ⟨o, es, ep, t, ho, hd, hf, he⟩ := ha
  unfold setEntries
  refine wpAny_bind (wpAny_bind (wpAny_setState_of ho hd hf (wpAny_pure ?_)))
  refine wpAny_bind (forIdleA es (fun e h => ?_) (wpAny_pure h2))
  obtain ⟨x, u, ex⟩ := he e h
  obtain ⟨i, y⟩ := e
  have ex : y = .str x u := ex
  subst ex
  rfl
theorem isT_of {a : Addr} {S : Str → Bool} {n : Nat} {h : Heap} (hS : h.SetOf (PySem.strKind prog w) a S n) : IsT h a := by
  obtain ⟨o, es, ep, t, ho, _, hd, hel, _, _, hf, _⟩ := hS
  refine ⟨o, es, ep, t, ho, hd, hf, fun e he => ?_⟩
  obtain ⟨⟨k, h1, _⟩, _⟩ := hel e he
  obtain ⟨u, e1⟩ := Value.isStrOf_shape (x := k) (v := e.2) h1
  exact ⟨k, u, e1⟩
/-- the walk along a set while another one is filled -/
theorem walkU {a o r : Addr} {S SO : Str → Bool} {n m : Nat} {Q : Array (Int × Value) → Shared → Prop} (hS : s.heap.SetOf (PySem.strKind prog w) a S n) (hO : s.heap.SetOf (PySem.strKind prog w) o SO m) (hR : s.heap.SetOf (PySem.strKind prog w) r (fun _ => false) 0) (na : a ≠ r) (no : o ≠ r)
    (hQ : ∀ (ws : Array (Int × Value)) (h' : Heap), ElemsOf (PySem.strKind prog w) ws.toList → (∀ k, S k = true ↔ ∃ e ∈ ws.toList, (PySem.strKind prog w).is k e.2 = true) → ws.size = n → Heap.SameBut r s.heap h' → h'.SetOf (PySem.strKind prog w) r (fun _ => false) 0 → Q ws { s with heap := h' }) :
    wpAny (model prog w) A (setWalkUnseen a [o, r] (some r)) Q E s := by
  have qT := quiet (prog := prog) (w := w) (A := A) (E := E) (s := s) (Q := fun b s' => b = true ∧ s' = s) ⟨rfl, rfl⟩ [a, o, r] (fun b hb => by
    simp only [List.mem_cons, List.not_mem_nil, or_false] at hb
    rcases hb with e | e | e
    · rw [e]; exact isT_of hS
    · rw [e]; exact isT_of hO
    · rw [e]; exact isT_of hR)
  obtain ⟨oa, es, ep, t, ho, hx, hd, hel, hm, hb, hf, hn⟩ := id hS
  have same : ∀ es' : Array (Int × Value), es'.toList.Perm es.toList → Q es' s := fun es' p => hQ es' s.heap (fun e he => hel e (p.mem_iff.mp he)) (fun k => (hm k).trans ⟨fun ⟨e, h1, h2⟩ => ⟨e, p.mem_iff.mpr h1, h2⟩, fun ⟨e, h1, h2⟩ => ⟨e, p.mem_iff.mp h1, h2⟩⟩) (by
    have := p.length_eq
    rw [Array.length_toList, Array.length_toList] at this
    omega) (.refl _ _) hR
  unfold setWalkUnseen
  refine wpAny_bind (wpAny_setState_of ho hd hf ?_)
  dsimp only
  refine wpAny_bind (L2.wpAny_byText ?_)
  have walk : (w.params.followText "set-order" = true ∨ (t.led = true ∧ t.plain = true) ∨ es.size ≤ 1) → wpAny (model prog w) A (setWalk a) Q E s := by
    intro hc
    unfold setWalk
    refine wpAny_bind (wpAny_setState_of ho hd hf ?_)
    dsimp only
    refine wpAny_bind (L2.wpAny_byText ?_)
    by_cases hbt : w.params.followText "set-order" = true
    · refine L2.wp_if_pos hbt ?_
      exact wpAny_bind (wpAny_askSetting (wpAny_pure (same _ (L2.pick_perm _ es))))
    · refine L2.wp_if_neg hbt ?_
      have hdr : ¬ ((!t.plain && decide (es.size > 1)) = true) := by
        rcases hc with z | ⟨_, z⟩ | z
        · exact absurd z hbt
        · rw [z]; simp
        · simp; omega
      refine L2.wp_if_neg hdr ?_
      refine wpAny_bind (wpAny_of_eq (a := ()) ?_ (wpAny_pure (same es (.refl _))))
      show (if (!t.led && decide (es.size > 1)) = true then unsupported "set:maker-not-led" else pure ()) = pure ()
      have : ¬ ((!t.led && decide (es.size > 1)) = true) := by
        rcases hc with z | ⟨z, _⟩ | z
        · exact absurd z hbt
        · rw [z]; simp
        · simp; omega
      rw [if_neg this]
  by_cases hc : (w.params.followText "set-order" || t.led && t.plain || decide (es.size ≤ 1)) = true
  · refine L2.wp_if_pos hc (walk ?_)
    rcases (Bool.or_eq_true _ _).mp hc with z | z
    · rcases (Bool.or_eq_true _ _).mp z with z | z
      · exact .inl z
      · exact .inr (.inl ((Bool.and_eq_true _ _).mp z))
    · exact .inr (.inr (of_decide_eq_true z))
  · refine L2.wp_if_neg hc ?_
    refine wpAny_bind (wpAny_mono qT (fun b s' z => ?_) fun _ _ z => z)
    obtain ⟨rfl, rfl⟩ := z
    refine L2.wp_if_neg (by decide) ?_
    refine wpAny_bind (wpAny_rule ?_)
    obtain ⟨orr, er, epr, tr, hor, hxr, hdr, helr, hmr, hbr, hfr, hnr⟩ := id hR
    refine wpAny_bind (wpAny_setState_of hor hdr hfr ?_)
    dsimp only
    by_cases hf2 : (tr.led && !t.led || tr.plain && !t.plain) = true
    · refine L2.wp_if_pos hf2 ?_
      refine wpAny_bind (wpAny_storeSet_of hor hdr ?_ (fits_of_scanBound hbr))
      refine wpAny_pure (hQ es _ hel hm hn (Heap.SameBut.update s'.heap r _) ?_)
      exact ⟨_, er, _, _, L2.store_at hor hdr, hxr, rfl, helr, hmr, hbr, hfr, hnr⟩
    · refine L2.wp_if_neg hf2 ?_
      exact wpAny_pure (same es (.refl _))
/-- the loop of a difference -/
theorem loopD {a o r : Addr} {S SO : Str → Bool} {n m was : Nat} {id : String} (na : a ≠ r) (no : o ≠ r) : ∀ (l : List (Int × Value)) (R : Str → Bool) (j : Nat) (s : Shared) (Q : PUnit → Shared → Prop) (f : Int × Value → PUnit → Sem (ForInStep PUnit)),
    (f = fun e _ => do
      holding [e.2] (do
        let q ← setFind o e.2 e.1
        let there ← pure q.isSome
        if (!there) = true then do
          let _ ← setAddHashed r e.2 e.1
          pure ()
        else pure ())
      Builtin.Frozenset.unchanged id a was
      pure (.yield PUnit.unit)) →
    ElemsOf (PySem.strKind prog w) l → (∃ oa es t, s.heap.get? a = some oa ∧ oa.data = .set es was t ∧ t.fits es.size = true) → s.heap.SetOf (PySem.strKind prog w) o SO m → s.heap.SetOf (PySem.strKind prog w) r R j → j + l.length < scanBound →
    (∀ h' R' j', Heap.SameBut r s.heap h' → h'.SetOf (PySem.strKind prog w) r R' j' → (j' = 0 ↔ j = 0 ∧ ∀ e ∈ l, ∀ k, (PySem.strKind prog w).is k e.2 = true → SO k = true) → Q ⟨⟩ { s with heap := h' }) →
    wpAny (model prog w) A (forIn l PUnit.unit f) Q E s := by
  intro l
  induction l with
  | nil =>
    intro R j s Q f _ _ _ _ hR _ hQ
    exact wpAny_pure (hQ s.heap R j (.refl _ _) hR ⟨fun z => ⟨z, fun _ h => nomatch h⟩, fun z => z.1⟩)
  | cons e l ih =>
    intro R j s Q f ef hel ha hO hR hb hQ
    rw [List.forIn_cons]
    refine wpAny_bind ?_
    obtain ⟨⟨k, hk, hh⟩, hsc⟩ := hel.head
    obtain ⟨i, x⟩ := e
    simp only at hk hh hsc
    subst hh
    have step : ∀ (h' : Heap) (R' : Str → Bool) (j' : Nat), Heap.SameBut r s.heap h' → h'.SetOf (PySem.strKind prog w) r R' j' → (j' = 0 ↔ j = 0 ∧ SO k = true) → j' ≤ j + 1 → ∀ Q2 : ForInStep PUnit → Shared → Prop, (∀ s1, wpAny (model prog w) A (forIn l PUnit.unit f) Q E s1 → Q2 (.yield PUnit.unit) s1) →
        wpAny (model prog w) A (do
          Builtin.Frozenset.unchanged id a was
          pure (ForInStep.yield PUnit.unit)) Q2 E { s with heap := h' } := by
      intro h' R' j' sb hR' hj hjle Q2 hQ2
      obtain ⟨oa, es, t, ho, hd, hf⟩ := ha
      have ho' : h'.get? a = some oa := by rw [sb.2 a na]; exact ho
      refine wpAny_bind ?_
      unfold Builtin.Frozenset.unchanged setEpoch
      refine wpAny_bind (wpAny_bind (wpAny_setState_of (s := { s with heap := h' }) ho' hd hf (wpAny_pure ?_)))
      refine L2.wp_if_neg (by simp) ?_
      refine wpAny_pure (wpAny_pure (hQ2 _ ?_))
      have hO' : h'.SetOf (PySem.strKind prog w) o SO m := by
        obtain ⟨oo, r1⟩ := hO
        obtain ⟨es1, ep1, t1, g1, r2⟩ := r1
        exact ⟨oo, es1, ep1, t1, by rw [sb.2 o no]; exact g1, r2⟩
      refine ih R' j' { s with heap := h' } Q f ef hel.tail ⟨oa, es, t, ho', hd, hf⟩ hO' hR' (by simp only [List.length_cons] at hb; omega) fun h2 R2 j2 sb2 hR2 hj2 => ?_
      refine hQ h2 R2 j2 (sb.trans sb2) hR2 (hj2.trans ⟨fun ⟨z1, z2⟩ => ?_, fun ⟨z1, z2⟩ => ?_⟩)
      · have z1 := hj.mp z1
        refine ⟨z1.1, fun e he k' hk' => ?_⟩
        rcases List.mem_cons.mp he with q | q
        · subst q
          obtain ⟨u1, e1⟩ := Value.isStrOf_shape (x := k) (v := x) hk
          obtain ⟨u2, e2⟩ := Value.isStrOf_shape (x := k') (v := x) hk'
          rw [e1] at e2
          cases e2
          exact z1.2
        · exact z2 e q k' hk'
      · exact ⟨hj.mpr ⟨z1, z2 _ List.mem_cons_self k hk⟩, fun e he => z2 e (List.mem_cons_of_mem _ he)⟩
    have fe : f ((PySem.strKind prog w).hash k, x) PUnit.unit = (do
      holding [x] (do
        let q ← setFind o x ((PySem.strKind prog w).hash k)
        let there ← pure q.isSome
        if (!there) = true then do
          let _ ← setAddHashed r x ((PySem.strKind prog w).hash k)
          pure ()
        else pure ())
      Builtin.Frozenset.unchanged id a was
      pure (.yield PUnit.unit)) := by rw [ef]
    rw [fe]
    refine wpAny_bind (wpAny_holding ?_)
    refine wpAny_bind (wpAny_setFind_of hk hsc hO fun q hq => ?_)
    refine wpAny_bind (wpAny_pure ?_)
    rw [hq]
    cases hS : SO k with
    | true =>
      refine L2.wp_if_neg (by decide) (wpAny_pure ?_)
      exact step s.heap R j (.refl _ _) hR ⟨fun z => ⟨z, hS⟩, fun z => z.1⟩ (by omega) _ fun _ z => z
    | false =>
      refine L2.wp_if_pos (by decide) ?_
      refine wpAny_bind (wpAny_setAddHashed_of hk hsc hR (by simp only [List.length_cons] at hb; omega) fun h' sb hR' => wpAny_pure ?_)
      refine step h' _ _ sb hR' ?_ (by split <;> omega) _ fun _ z => z
      rw [hS]
      refine ⟨fun z => ?_, fun z => absurd z.2 (by decide)⟩
      exfalso
      split at z
      · rename_i hRk
        obtain ⟨o1, es1, ep1, t1, g1, _, _, _, hm1, _, _, hn1⟩ := hR
        obtain ⟨e1, he1, _⟩ := (hm1 k).mp hRk
        have : es1.toList ≠ [] := List.ne_nil_of_mem he1
        have hz : es1.size = 0 := by omega
        exact this (by simpa using hz)
      · omega
end
end SD
end Wq
set_option Elab.async false
set_option linter.all false
set_option maxRecDepth 100000
set_option maxHeartbeats 2000000
namespace Wq
open PySem PySem.Spec PyProof.Rows
namespace SD
section
variable {prog : Program} {w : World} {A : Around} {E : Value → Shared → Prop} {s : Shared}
theorem set_type {h : Heap} {a : Addr} {S : Str → Bool} {n : Nat} (hS : h.SetOf (PySem.strKind prog w) a S n) {g : Array GenState} {d : Drawn} {t : Nat} {os : OsState} : (⟨h, g, d, t, os⟩ : Shared).TypeIs (.ref a) "set" := by
  obtain ⟨o, es, ep, t, ho, hx, _⟩ := hS
  exact ⟨o, ho, hx.1⟩
theorem size_of {h : Heap} {a : Addr} {S : Str → Bool} {n : Nat} (hS : h.SetOf (PySem.strKind prog w) a S n) {g : Array GenState} {d : Drawn} {t : Nat} {os : OsState} {Q : Nat → Shared → Prop} (q : Q n ⟨h, g, d, t, os⟩) : wpAny (model prog w) A (Builtin.Frozenset.sizeOf a) Q E ⟨h, g, d, t, os⟩ := by
  obtain ⟨o, es, ep, t, ho, hx, hd, _, _, _, hf, hn⟩ := hS
  unfold Builtin.Frozenset.sizeOf setEntries
  refine wpAny_bind (wpAny_bind (wpAny_setState_of ho hd hf (wpAny_pure (wpAny_pure ?_))))
  dsimp only
  rw [hn]
  exact q
theorem any_set {h : Heap} {a : Addr} {S : Str → Bool} {n : Nat} (hS : h.SetOf (PySem.strKind prog w) a S n) {g : Array GenState} {d : Drawn} {t : Nat} {os : OsState} {Q : Bool → Shared → Prop} (q : Q true ⟨h, g, d, t, os⟩) : wpAny (model prog w) A (Builtin.Frozenset.isAnySet (.ref a)) Q E ⟨h, g, d, t, os⟩ := by
  unfold Builtin.Frozenset.isAnySet orM
  refine wpAny_bind (wpAny_isInstance (set_type hS) sub_set_self ?_)
  exact wpAny_pure q
theorem diff {a o : Addr} {S SO : Str → Bool} {n m : Nat} {nm : String} {Q : Value → Shared → Prop} (hS : s.heap.SetOf (PySem.strKind prog w) a S n) (hO : s.heap.SetOf (PySem.strKind prog w) o SO m) (hnm : ¬ n / 4 > m) (hn : n < scanBound)
    (hQ : ∀ h' R j, h'.SetOf (PySem.strKind prog w) s.heap.objs.size R j → (j = 0 ↔ ∀ k, S k = true → SO k = true) → (∀ b u, s.heap.get? b = some u → h'.get? b = some u) → Q (.ref s.heap.objs.size) { s with heap := h' }) :
    wpAny (model prog w) A (Builtin.Frozenset.difference nm a (.ref o)) Q E s := by
  obtain ⟨hp, g, d, tk, os⟩ := s
  unfold Builtin.Frozenset.difference
  refine wpAny_bind (any_set hO ?_)
  refine L2.wp_if_neg (by decide) ?_
  unfold Builtin.Frozenset.addrOf
  refine wpAny_bind (wpAny_pure ?_)
  refine L2.wp_if_neg (by simp) ?_
  refine L2.wp_if_pos rfl ?_
  refine wpAny_bind (size_of hO ?_)
  refine wpAny_bind (size_of hS ?_)
  refine L2.wp_if_neg hnm ?_
  unfold Builtin.Frozenset.baseOf
  refine wpAny_bind (wpAny_bind (wpAny_isInstance (set_type hS) sub_set_self (wpAny_pure ?_)))
  refine wpAny_bind (PpSet.newSet_ok ?_)
  refine wpAny_bind (wpAny_pure ?_)
  have hp1 : ∀ {b : Addr} {u x : Obj}, hp.get? b = some u → (hp.push x).get? b = some u := fun e => Heap.get?_push_of_some _ e
  have lift : ∀ {b : Addr} {T : Str → Bool} {j : Nat} {x : Obj}, hp.SetOf (PySem.strKind prog w) b T j → (hp.push x).SetOf (PySem.strKind prog w) b T j := by
    rintro b T j x ⟨o1, es, ep, t, ho, r⟩
    exact ⟨o1, es, ep, t, hp1 ho, r⟩
  obtain ⟨oa, es, ep, t, ho, hx, hd, hel, hm, hb, hf, hnn⟩ := id hS
  unfold setEpoch
  refine wpAny_bind (wpAny_bind (wpAny_setState_of (hp1 ho) hd hf (wpAny_pure ?_)))
  have hnew : (hp.push { cls := .type "set", dict := none, data := .set #[] 0 (.fresh 0 0 (!w.params.followText "set-order")) }).SetOf (PySem.strKind prog w) hp.objs.size (fun _ => false) 0 :=
    (PyProof.Rows.setObjOf_fresh (knd := PySem.strKind prog w) _).setOf (Heap.get?_push_size _ rfl) (by decide)
  have na : a ≠ hp.objs.size := Nat.ne_of_lt (Heap.lt_size ho)
  have no : o ≠ hp.objs.size := by
    obtain ⟨o1, _, _, _, h1, _⟩ := hO
    exact Nat.ne_of_lt (Heap.lt_size h1)
  refine wpAny_bind (wpAny_holding (wpAny_bind ?_))
  refine L2.wp_if_pos rfl ?_
  refine walkU (s := { heap := hp.push { cls := .type "set", dict := none, data := .set #[] 0 (.fresh 0 0 (!w.params.followText "set-order")) }, gens := g, drawn := d, toks := tk, os := os }) (lift hS) (lift hO) hnew na no fun ws h' hel' hm' hsz sb hR => ?_
  have up : ∀ {b : Addr} {u : Obj}, hp.get? b = some u → h'.get? b = some u := fun {b u} e => by
    rw [sb.2 b (Nat.ne_of_lt (Heap.lt_size e))]
    exact hp1 e
  have hO' : h'.SetOf (PySem.strKind prog w) o SO m := by
    obtain ⟨o1, es1, ep1, t1, h1, r⟩ := hO
    exact ⟨o1, es1, ep1, t1, up h1, r⟩
  refine wpAny_bind ?_
  rw [← Array.forIn_toList]
  refine loopD (S := S) (n := n) (id := nm) (was := ep) na no ws.toList (fun _ => false) 0 { heap := h', gens := g, drawn := d, toks := tk, os := os } _ _ rfl hel' ⟨oa, es, t, up ho, hd, hf⟩ hO' hR (by rw [Array.length_toList]; omega) fun h2 R' j' sb2 hR2 hj => ?_
  refine wpAny_pure (wpAny_pure (hQ h2 R' j' hR2 (hj.trans ⟨fun z k hk => ?_, fun z => ⟨rfl, fun e he k hk => ?_⟩⟩) fun b u e => ?_))
  · obtain ⟨e, he, hk'⟩ := (hm' k).mp hk
    exact z.2 e he k hk'
  · exact z k ((hm' k).mpr ⟨e, he, hk⟩)
  · rw [sb2.2 b (Nat.ne_of_lt (Heap.lt_size e))]
    exact up e
theorem entry_sub : entryFor table "set.__sub__" = some Builtin.«frozenset.__sub__» := entryFor_alias (id' := "frozenset.__sub__") (by kernel_rfl) rfl (by decide +kernel) (by kernel_rfl)
theorem sub_tree (a b : Value) : Builtin.«frozenset.__sub__» ⟨[a, b], []⟩ = (do
    let (self, other) ← Builtin.Frozenset.slot1 "__sub__" ⟨[a, b], []⟩
    if !(← Builtin.Frozenset.isAnySet self <&&> Builtin.Frozenset.isAnySet other) then rule s!"frozenset.{"__sub__"}.declined"; return ← ret .notImplemented
    ret (← Builtin.Frozenset.difference s!"frozenset.{"__sub__"}" (← Builtin.Frozenset.addrOf self) other)) := rfl
end
end SD
end Wq
set_option Elab.async false
set_option linter.all false
set_option maxRecDepth 100000
set_option maxHeartbeats 2000000
namespace Wq
open PySem PySem.Spec PyProof.Rows
namespace SD
section
variable {prog : Program} {w : World} {A : Around} {E : Value → Shared → Prop} {s : Shared}
theorem call_sub {a o : Addr} {S SO : Str → Bool} {n m : Nat} {Q : Value → Shared → Prop} (hS : s.heap.SetOf (PySem.strKind prog w) a S n) (hO : s.heap.SetOf (PySem.strKind prog w) o SO m) (hnm : ¬ n / 4 > m) (hn : n < scanBound)
    (hQ : ∀ h' R j, h'.SetOf (PySem.strKind prog w) s.heap.objs.size R j → (j = 0 ↔ ∀ k, S k = true → SO k = true) → (∀ b u, s.heap.get? b = some u → h'.get? b = some u) → Q (.ref s.heap.objs.size) { s with heap := h' }) :
    wpAny (model prog w) A (call (.builtin "set.__sub__") [.ref a, .ref o]) Q E s := by
  obtain ⟨hp, g, d, tk, os⟩ := s
  refine wpAny_call (codeAny_call_builtin PySem.F.slot_set_sub.plain entry_sub (PySem.F.slot_set_sub.check _ _ _ _ _ _ _ _ (set_type hS) (PySem.F.args_set_sub_2 _ _) ?_))
  rw [sub_tree]
  have h1 : Builtin.Frozenset.slot1 "__sub__" ⟨[.ref a, .ref o], []⟩ = pure (.ref a, .ref o) := rfl
  refine wpAny_bind (wpAny_of_eq h1 ?_)
  dsimp only
  unfold andM
  refine wpAny_bind (wpAny_bind (any_set hS ?_))
  show wpAny _ _ (Builtin.Frozenset.isAnySet (.ref o)) _ _ _
  refine any_set hO ?_
  refine L2.wp_if_neg (by decide) ?_
  unfold Builtin.Frozenset.addrOf
  refine wpAny_bind (wpAny_pure (wpAny_bind (diff hS hO hnm hn fun h' R j h1 h2 h3 => ?_)))
  exact wpAny_pure (hQ h' R j h1 h2 h3)
/-- a - b of sets of texts -/
theorem bin_sub {a o : Addr} {S SO : Str → Bool} {n m : Nat} {Q : Value → Shared → Prop} (hS : s.heap.SetOf (PySem.strKind prog w) a S n) (hO : s.heap.SetOf (PySem.strKind prog w) o SO m) (hnm : ¬ n / 4 > m) (hn : n < scanBound)
    (hQ : ∀ h' R j, h'.SetOf (PySem.strKind prog w) s.heap.objs.size R j → (j = 0 ↔ ∀ k, S k = true → SO k = true) → (∀ b u, s.heap.get? b = some u → h'.get? b = some u) → Q (.ref s.heap.objs.size) { s with heap := h' }) :
    wpAny (model prog w) A (binaryOp .Sub (.ref a) (.ref o)) Q E s := by
  obtain ⟨hp, g, d, tk, os⟩ := s
  exact wpAny_binaryOp_same (set_type hS) (set_type hO) PySem.F.fills_set_sub PySem.F.slot_set_sub (call_sub hS hO hnm hn fun h' R j h1 h2 h3 => ⟨fun z => (nomatch z), hQ h' R j h1 h2 h3⟩)
/-- the signs of a text are put into a set -/
theorem loopT {R : Result → Shared → Prop} {I : Addr} {fp wr : List Addr} {n : Nat} {x : Str} {St : Nat → Heap → Prop} (W : Walks prog w A.in1 I fp wr n (SignAt x) St) (hn : n = x.cps.size) (S : Addr) (hSf : S ∉ fp) (hb : n + 1 < scanBound) : ∀ (k i : Nat) (s : Shared), n - i = k → i ≤ n → St i s.heap →
      s.heap.SetOf (PySem.strKind prog w) S (mem (x.cps.toList.take i).reverse) (dnum (x.cps.toList.take i).reverse) →
      (∀ h' tk, (∀ b o, b ∉ S :: wr → s.heap.get? b = some o → h'.get? b = some o) → h'.SetOf (PySem.strKind prog w) S (mem x.cps.toList.reverse) (dnum x.cps.toList.reverse) → R (.ok (.ret .none)) { s with heap := h', toks := tk }) →
      codeAny (model prog w) A (.builtin "set.update.loop" ⟨[.ref S, .ref I], []⟩) R s := by
  have hSw : S ∉ wr := fun h => hSf (W.sub _ h)
  intro k
  induction k with
  | zero =>
    intro i s hk hi hst hS hR
    have hin : i = n := by omega
    subst hin
    refine codeAny_builtin PyProof.Rows.F.entry_set_update_loop ?_
    rw [Around.under_plainId PyProof.Rows.F.plain_set_update_loop _]
    show wpAny _ A.in1 (pyNext (.ref I) >>= _) _ _ s
    refine wpAny_bind (W.done s _ _ hst fun h' tk hm => ?_)
    show wpAny _ A.in1 (ret Value.none) _ _ _
    refine wpAny_pure (hR h' tk (fun b o hb e => hm b o (fun z => hb (List.mem_cons_of_mem _ z)) e) ?_)
    rw [List.take_of_length_le (by rw [hn]; simp)] at hS
    obtain ⟨o, es, ep, t, ho, rest⟩ := hS
    exact ⟨o, es, ep, t, hm S _ hSw ho, rest⟩
  | succ k ih =>
    intro i s hk hi hst hS hR
    have hlt : i < n := by omega
    refine codeAny_builtin PyProof.Rows.F.entry_set_update_loop ?_
    rw [Around.under_plainId PyProof.Rows.F.plain_set_update_loop _]
    show wpAny _ A.in1 (pyNext (.ref I) >>= _) _ _ s
    refine wpAny_bind (W.item i s _ _ hlt hst fun v h1 tk hP hst' hm => ?_)
    obtain ⟨c, t, hc, rfl⟩ := hP
    have hS' : h1.SetOf (PySem.strKind prog w) S (mem (x.cps.toList.take i).reverse) (dnum (x.cps.toList.take i).reverse) := by
      obtain ⟨o, es, ep, tb, ho, rest⟩ := hS
      exact ⟨o, es, ep, tb, hm S _ hSw ho, rest⟩
    have hcl : x.cps.toList[i]? = some c := by rw [Array.getElem?_toList]; exact hc
    have hrev : (x.cps.toList.take (i + 1)).reverse = c :: (x.cps.toList.take i).reverse := by
      rw [List.take_add_one, hcl]
      simp
    show wpAny _ A.in1 (holding [Value.str ⟨#[c]⟩ t] (setAdd S (.str ⟨#[c]⟩ t)) >>= _) _ _ _
    refine wpAny_bind (wpAny_holding ?_)
    unfold setAdd
    refine wpAny_holding ?_
    refine wpAny_bind ((PySem.strKind prog w).pyHash (k := sg c) (strKind_is _ _ _ _) ?_)
    have hdl := dnum_le (x.cps.toList.take i).reverse
    rw [List.length_reverse, List.length_take] at hdl
    refine wpAny_setAddHashed_of (knd := PySem.strKind prog w) (s := { s with heap := h1, toks := tk + 1 }) (k := sg c) (strKind_is _ _ _ _) rfl hS' (by omega) fun h' hsb hS2 => ?_
    have hSi : h'.SetOf (PySem.strKind prog w) S (mem (x.cps.toList.take (i + 1)).reverse) (dnum (x.cps.toList.take (i + 1)).reverse) := by
      refine SetOf_congr hS2 (fun k' => ?_) ?_
      · rw [hrev]
        unfold mem
        rw [List.any_cons, Bool.or_comm]
      · rw [hrev, mem_sg]
        show _ = (if c ∈ (x.cps.toList.take i).reverse then _ else _)
        by_cases hcm : c ∈ (x.cps.toList.take i).reverse
        · rw [if_pos hcm, if_pos (decide_eq_true hcm)]
        · rw [if_neg hcm, if_neg (by simpa using hcm)]
    refine wpAny_pure ⟨plainId_quiet PyProof.Rows.F.plain_set_update_loop _, ih (i + 1) _ (by omega) hlt (W.frame _ h1 _ hst' fun b hb o e => ?_) hSi fun h'' tk'' hm'' hS'' => ?_⟩
    · rw [hsb.2 b (fun h : b = S => hSf (by rw [← h]; exact hb))]; exact e
    · refine hR h'' tk'' (fun b o hb e => ?_) hS''
      refine hm'' b o hb ?_
      show h'.get? b = some o
      rw [hsb.2 b (fun h : b = S => hb (by rw [h]; exact List.mem_cons_self))]
      exact hm b o (fun z => hb (List.mem_cons_of_mem _ z)) e
end
end SD
end Wq
set_option Elab.async false
set_option linter.all false
set_option maxRecDepth 100000
set_option maxHeartbeats 4000000
namespace Wq
open PySem PySem.Spec PyProof.Rows
namespace SD
section
variable {prog : Program} {w : World} {A : Around} {E : Value → Shared → Prop} {s : Shared}
def mtS (led : Bool) : Obj := { cls := .type "set", dict := none, data := .set #[] 0 (.fresh 0 0 led) }
/-- set(text) -/
theorem call_setT {x : Str} {u : Tok} {Q : Value → Shared → Prop} (hh : A.handled = none) (hb : x.cps.size + 1 < scanBound)
    (h : ∀ (h' : Heap) (tk : Nat), h'.SetOf (PySem.strKind prog w) s.heap.objs.size (mem x.cps.toList.reverse) (dnum x.cps.toList.reverse) → (∀ b o, s.heap.get? b = some o → h'.get? b = some o) → Q (.ref s.heap.objs.size) { s with heap := h', toks := tk }) :
    wpAny (model prog w) A (call (.type "set") [.str x u]) Q E s := by
  obtain ⟨hp, g, d, tk0, os⟩ := s
  obtain ⟨cc, tl, hmro⟩ := PySem.F.called_set.mro
  have made := PySem.F.called_set.made
  have subs := PySem.F.called_set.sub
  have g1 := PySem.F.called_set.notType
  have g2 := PySem.F.called_set.canCreate
  have g3 := PySem.F.typeCall_set_1 (.str x u)
  have q0 : (Code.builtin "type.__call__" ⟨[.type "set", .str x u], []⟩).quiet = true := Code.quiet_builtin _ (by decide +kernel)
  refine wpAny_call (codeAny_of_tree (show wpAny _ _ (callAny (.type "set") ⟨[.str x u], []⟩) _ _ _ from wpAny_pure ⟨q0, codeAny_builtin PySem.F.entry_type_call ?_⟩))
  rw [Around.under_plain (weight_type_call_type "set" [.str x u] []) rfl]
  repeat (any_goals (first | assumption | wp_step))
  refine codeAny_mono (code_set_new_1 (.str x u) (E := E) (Q₁ := fun v s1 => ∃ led : Bool, v = .ref hp.objs.size ∧ s1 = ⟨hp.push (mtS led), g, d, tk0, os⟩) fun led => ⟨led, rfl, rfl⟩) fun r s1 hr => ?_
  match r, hr with
  | .error e, hr => exact hr
  | .ok (.ret obj), hr =>
    obtain ⟨led, rfl, rfl⟩ := hr
    have e0 : (hp.push (mtS led)).get? hp.objs.size = some (mtS led) := Heap.get?_push_size _ rfl
    have tS : (⟨hp.push (mtS led), g, d, tk0, os⟩ : Shared).TypeIs (.ref hp.objs.size) "set" := ⟨_, e0, rfl⟩
    have i1 := PySem.F.called_set.init.lookup
    have i2 := PySem.F.called_set.init.bind (.ref hp.objs.size)
    repeat (any_goals (first | assumption | wp_step))
    refine codeAny_mono (codeAny_call_builtin (R := wants (fun v s2 => v = .none ∧ ∃ h' tk, s2 = ⟨h', g, d, tk, os⟩ ∧ h'.SetOf (PySem.strKind prog w) hp.objs.size (mem x.cps.toList.reverse) (dnum x.cps.toList.reverse) ∧ ∀ b o, hp.get? b = some o → h'.get? b = some o) E)
      PySem.F.called_set.init.plain PySem.F.entry_set_init (check_set_init_1 tS ?_)) fun r2 s2 hr2 => ?_
    · have k1 := PySem.F.sub_str_set
      have k2 := PySem.F.sub_str_frozenset
      have k3 : (Value.type "str" == Value.type "dict") = false := by decide
      unfold Builtin.«set.__init__» noKeywords Builtin.Frozenset.updateFrom
      generalize hPI : pyIter = PI
      wp_walk
      subst hPI
      refine wpAny_pyIter_str fun o St hW hst => ?_
      refine wpAny_bind (wpAny_runValue ?_)
      have n1 : hp.objs.size ∉ [(hp.push (mtS led)).objs.size] := by
        rw [Heap.size_push, List.mem_singleton]
        exact Nat.ne_of_lt (Nat.lt_succ_self _)
      refine loopT (hW _ (by simp [hh])) rfl hp.objs.size n1 hb x.cps.size 0 _ (Nat.sub_zero _) (Nat.zero_le _) hst ?_ fun h' tk hk hS => ?_
      · exact SetOf_congr ((PyProof.Rows.setObjOf_fresh (knd := PySem.strKind prog w) led).setOf (Heap.get?_push_of_some _ e0) (by decide)) (fun _ => rfl) rfl
      · refine wpAny_pure (wpAny_pure ⟨rfl, h', tk, rfl, hS, fun b o' e => ?_⟩)
        have lt := Heap.lt_size e
        refine hk b o' (fun z => ?_) (Heap.get?_push_of_some _ (Heap.get?_push_of_some _ e))
        rcases List.mem_cons.mp z with q | q
        · exact absurd q (Nat.ne_of_lt lt)
        · rw [List.mem_singleton] at q
          have q : b = (hp.push (mtS led)).objs.size := q
          rw [Heap.size_push] at q
          exact absurd q (Nat.ne_of_lt (Nat.lt_succ_of_lt lt))
    · match r2, hr2 with
      | .error e, hr2 => exact hr2
      | .ok (.ret v), hr2 =>
        obtain ⟨rfl, h', tk, rfl, q1, q2⟩ := hr2
        repeat (any_goals (first | assumption | wp_step))
        exact h _ _ q1 q2
end
end SD
end Wq
set_option Elab.async false
set_option linter.all false
set_option maxRecDepth 100000
set_option maxHeartbeats 4000000
namespace Wq
open PySem PySem.Spec PyProof.Rows L2
open SD (mem dnum sg)
/-- a set of texts at a: S its members, n their number -/
def SetT (P : Program) (w : World) (a : Addr) (S : Str → Bool) (n : Nat) : HO := .ext fun h => h.SetOf (PySem.strKind P w) a S n
theorem setT_ok {P : Program} {w : World} {H : Hp} {h : Heap} {a : Addr} {S : Str → Bool} {n : Nat} (e : h.SetOf (PySem.strKind P w) a S n) : ObjOk P w H h a (SetT P w a S n) := by
  obtain ⟨o, es, ep, t, ho, r⟩ := e
  exact ⟨⟨o, es, ep, t, ho, r⟩, ⟨o, ho⟩, fun h1 h2 ⟨o1, es1, ep1, t1, h3, r1⟩ k => ⟨o1, es1, ep1, t1, k _ h3, r1⟩⟩
theorem setT_at {P : Program} {w : World} {H : Hp} {h : Heap} {a : Addr} {S : Str → Bool} {n : Nat} (hok : HOk P w H h) (e : H a = some (SetT P w a S n)) : h.SetOf (PySem.strKind P w) a S n := by
  have x : ObjOk P w H h a (.ext fun h => h.SetOf (PySem.strKind P w) a S n) := hok a _ e
  exact x.1
section
variable {X : Cx}
def rSetT (P : Program) (w : World) : List V → Hp → VK → Prop := fun xs H Q => ∃ x : Str, xs = [.str x] ∧ x.cps.size ≤ 4000 ∧ ∀ a, H a = none → Q (.ref a) (upd H a (SetT P w a (mem x.cps.toList.reverse) (dnum x.cps.toList.reverse)))
theorem cr_setT (hc : X.calm = true) : CallR X (.type "set") (rSetT X.prog X.w) := by
  intro pins s σ H xs us Q I r h
  obtain ⟨x, rfl, hl, q⟩ := h
  obtain ⟨u, rfl, t, rfl⟩ := vals1 r
  refine SD.call_setT (I.ok.hd hc) (by show x.cps.size + 1 < 4096; omega) fun h' tk hS hk => ?_
  have hn : H s.heap.objs.size = none := I.hok.fresh (Nat.le_refl _)
  exact ⟨.ref _, _, I.laid (t' := tk) hk (Nat.le_refl _) (setT_ok hS), rfl, q _ hn⟩
def rSubT (P : Program) (w : World) : R2 := fun x y H Q => ∃ (a b : Addr) (S T : Str → Bool) (n m : Nat), x = .ref a ∧ y = .ref b ∧ H a = some (SetT P w a S n) ∧ H b = some (SetT P w b T m) ∧ ¬ n / 4 > m ∧ n < 4096 ∧
  ∀ p R j, H p = none → (j = 0 ↔ ∀ k, S k = true → T k = true) → j < 4096 → Q (.ref p) (upd H p (SetT P w p R j))
theorem op_subT : OpR X (binaryOp .Sub) (rSubT X.prog X.w) := by
  intro pins s σ H x y v u Q I rx ry h
  obtain ⟨a, b, S, T, n, m, rfl, rfl, ha, hb, hnm, hn, q⟩ := h
  cases rx; cases ry
  refine SD.bin_sub (setT_at I.hok ha) (setT_at I.hok hb) hnm hn fun h' R j hS hj hk => ?_
  have hnn : H s.heap.objs.size = none := I.hok.fresh (Nat.le_refl _)
  have hl : j < 4096 := by
    obtain ⟨_, es, _, _, _, _, _, _, _, z, _, e⟩ := hS
    have z : es.size < 4096 := z
    omega
  exact ⟨.ref _, _, I.laid (t' := s.toks) hk (Nat.le_refl _) (setT_ok hS), rfl, q _ R j hnn hj hl⟩
def rLenT (P : Program) (w : World) : List V → Hp → VK → Prop := fun xs H Q => ∃ (a : Addr) (S : Str → Bool) (n : Nat), xs = [.ref a] ∧ H a = some (SetT P w a S n) ∧ Q (.int n) H
theorem call_lenT : CallR X (.builtin "len") (rLenT X.prog X.w) := by
  intro pins s σ H xs us Q I r h
  obtain ⟨a, S, n, rfl, ha, q⟩ := h
  obtain ⟨u, rfl, ru⟩ := vals1 r
  cases ru
  obtain ⟨o, es, ep, t, ho, hex, hd, _, _, hb, hf, hn⟩ := setT_at I.hok ha
  have hb : es.size < 4096 := hb
  refine call_len_set ho hex hd hf (by omega) ⟨.int n, H, I.tok _, ⟨_, by rw [hn]⟩, q⟩
end
end Wq
set_option Elab.async false
set_option linter.all false
set_option maxRecDepth 100000
set_option maxHeartbeats 2000000
/-! exceptions held as values: made, their fields read, isinstance -/
namespace Wq
open PySem PySem.Spec PyProof.Rows L2
/-- x is an exception of the class at C with the fields fs (none: it has no dict) -/
inductive IsX (H : Hp) (C : Addr) : V → List (Str × V) → Prop
  | dict {a d : Addr} {fs : List (Str × V)} : H a = some (exo a C (some d)) → H d = some (exd d fs) → IsX H C (.ref a) fs
  | bare {a : Addr} : H a = some (ExO (.ref C) a) → IsX H C (.ref a) []
section
variable {X : Cx} {pins : List (Addr × Obj)} {σ : L2.St} {H : Hp} {s : Shared}
theorem isX_at {C : Addr} {x : V} {fs : List (Str × V)} {u : Value} (I : Inv X pins σ H s) (h : IsX H C x fs) (r : RelV x u) : ∃ a oe od, u = .ref a ∧ PySem.W.InstAt s.heap a oe C od := by
  cases h with
  | dict ha hd =>
    cases r
    obtain ⟨t1, ho⟩ := exo_at I.hok ha
    obtain ⟨mA, hns, _⟩ := exd_at I.hok hd
    obtain ⟨od, ho2, _⟩ := lookIn_ns hns
    exact ⟨_, _, some od, rfl, ho, rfl, rfl, ho2⟩
  | @bare a ha =>
    cases r
    have z : ObjOk X.prog X.w H s.heap a (ExO (.ref C) a) := I.hok a _ ha
    obtain ⟨oe, vs, ho, hz, hd, _⟩ := z.1
    exact ⟨_, oe, none, rfl, ho, hz.1, by unfold PySem.W.notCls; rw [hd] <;> rfl, by rw [hz.2]; exact trivial⟩
/-- isinstance(x, c), x an exception -/
def rIsX (K : PySem.W.Frag) : List V → Hp → VK → Prop := fun xs H Q => ∃ (x c : V) (C : Addr) (fs : List (Str × V)) (cv : Value) (b : Bool), xs = [x, c] ∧ IsX H C x fs ∧ ExcC K C ∧ ClsV c cv ∧ PySem.W.kitOne K (.ref C) cv = some b ∧ Q (.bl b) H
theorem call_isX : CallR X (.builtin "isinstance") (rIsX X.K) := by
  intro pins s σ H xs us Q I r h
  obtain ⟨x, c, C, fs, cv, b, rfl, hx, T, hc, e, q⟩ := h
  obtain ⟨u1, u2, rfl, r1, r2⟩ := vals2 r
  have e2 := hc.eq r2
  subst e2
  obtain ⟨a, oe, od, rfl, J⟩ := isX_at I hx r1
  exact PySem.W.kia_one (PySem.W.kitx_exc (by obtain ⟨cd, hc, _⟩ := PySem.W.any_some T.hd; rw [hc]; rfl) T.hg T.hk T.hs T.ha T.hn T.ht T.hm) I.kIn J e (fun z => nomatch z) fun tk => ⟨.bl b, H, I.kept (t' := tk) fun _ _ z => z, rfl, q⟩
/-- x.f, x an exception with a dict -/
def tXfV (K : PySem.W.Frag) (f : Str) (te : TE) : TE := fun σ H Q => te σ H fun x H1 => ∃ (C a d : Addr) (fs : List (Str × V)) (v : V), x = .ref a ∧ XfC K C ∧ PySem.W.findIn K (.ref C) f = some none ∧ H1 a = some (exo a C (some d)) ∧ H1 d = some (exd d fs) ∧ fs.lookup f = some v ∧ Q v H1
theorem pe_xfV {e : Expr} {te : TE} {pos : Pos} {f : Str} (he : PE X e te) (hb : attributeBase e f X.env (eval e X.env) = eval e X.env := by rfl) : PE X (.Attribute e f pos) (tXfV X.K f te) := by
  refine ⟨fun pins s σ H Q I h => attr_of hb (thn (he.run pins s σ H _ I h) fun u s1 hh => ?_)⟩
  obtain ⟨x, H1, I1, rx, C, a, d, fs, v, ex, T, hno, ha, hd, l, q⟩ := hh
  subst ex
  obtain rfl : u = Value.ref a := rx
  obtain ⟨t1, ho⟩ := exo_at I1.hok ha
  obtain ⟨mA, hns, hr⟩ := exd_at I1.hok hd
  obtain ⟨od, ho2, hl⟩ := lookIn_ns hns
  obtain ⟨u, hu, ru⟩ := RelO.some_of (v := v) (o := mA f) (by rw [← l]; exact hr f)
  have J : PySem.W.InstAt s1.heap a _ C (some od) := ⟨ho, rfl, rfl, ho2⟩
  exact HandSPX.exc_get I1.kIn J T.ga T.gg T.exC (PySem.W.findObj_own T.hdC hno rfl (by rw [hl, hu])) (handed_of ru) ⟨v, H1, I1.tok _, ru, q⟩
/-- C(e, ..) as a value -/
def tMkX (C : Addr) (sp : Sp) (ta : TA) : TE := fun σ H Q => ta σ H fun vs H1 => vs.length ≤ 1000 ∧ ∀ a, H1 a = none → sp (.ref a :: vs) (upd H1 a (exo a C none)) (fun v H2 => v = .non ∧ Q (.ref a) H2) (fun _ _ _ => False)
theorem pe_mkX {CX : CXT} {x : Str} {e : Expr} {es : List Expr} {ta : TA} {p pos : Pos} {C fI : Addr} {k : Nat} {fd : FuncData} {ps : List Str} {sp : Sp} (T : OexC X.K C) (iC : PySem.W.findIn X.K (.ref C) "__init__" = some (some (.ref fI))) (tI : PySem.W.typeIn X.K (.ref fI) = some (.type "function"))
    (F1 : FnOk X.prog X.w X.K X.mg X.base CX k fI fd ps sp) (hr : Room (k + 1) X.A) (hb : Binds X.K fd ps []) (hx : Passes CX X (fun _ _ _ => False)) (hg : Gl X x) (hm : X.mg x = some (.ref C)) (ha : PA X (e :: es) ta)
    (hdb : (x == ("__debug__" : Str)) = false := by decide) (he : starEach (e :: es) X.env = (false, eval e X.env) :: starEach es X.env := by rfl) (hpl : (backTo pos (starEach es X.env)).any (·.1) = false := by rfl) : PE X (.Call (.Name x p) (e :: es) [] pos) (tMkX C sp ta) := by
  refine ⟨fun pins s σ H Q I h => ?_⟩
  obtain ⟨nm, q, N, bs, bm, sn, sub, ab, col, dd, k0, k1, k2, k3, k5, hC, hbm⟩ := T.cls
  refine wpAny_Call_Name_kw (ld_glob I hg hm (PySem.W.callWith_K (h₀ := X.base) I.ok.mod.kin T.kC (thn (ha.run pos pins s σ H _ I h) fun us s1 ⟨vs, H1, I1, r1, hz, q1⟩ => ⟨I1.kIn, ?_⟩) he hpl) hdb)
  show wpAny _ _ (call (.ref C) us) _ _ _
  obtain ⟨hp, g, dr, tk, os⟩ := s1
  have new : H1 (hp.objs.size + 1) = none := I1.hok.fresh (Nat.le_succ _)
  have hq := q1 (hp.objs.size + 1) new
  have got : ((hp.push (PySem.W.kdv_tup us)).push (PySem.HandSPX.excO C hp.objs.size)).get? (hp.objs.size + 1) = some (PySem.HandSPX.excO C hp.objs.size) := by heap_get
  have J : Inv X pins σ (upd H1 (hp.objs.size + 1) (exo (hp.objs.size + 1) C none)) ⟨(hp.push (PySem.W.kdv_tup us)).push (PySem.HandSPX.excO C hp.objs.size), g, dr, tk, os⟩ :=
    I1.laid (t' := tk) (fun b o z => Heap.get?_push_of_some _ (Heap.get?_push_of_some _ z)) (Nat.le_succ _) (exo_ok got)
  have r2 : Vals (V.ref (hp.objs.size + 1) :: vs) (Value.ref (hp.objs.size + 1) :: us) := .cons rfl r1
  have hl : (Value.ref (hp.objs.size + 1) :: us ++ []).length = ps.length := by
    rw [List.append_nil]
    exact r2.length.symm.trans (F1.len _ _ _ _ hq)
  have hus : us.length ≤ sizeLine := by
    rw [← Paired.length r1, sizeLine_eq]
    omega
  refine wpAny_call (PySem.HandSPX.call_own F.excBase_ValueError (fun Y => PySem.HandSPX.refsVE_contains Y bm hbm) (I1.kIn _ _ hC) (PySem.W.looks_findIn I1.kIn iC) (fun self => PySem.W.bind_fn I1.kIn self tI) hus
    (codeAny_mono (F1.run _ X.stack _ _ ⟨Value.ref (hp.objs.size + 1) :: us, []⟩ _ _ _ (fun _ _ _ => False) (hr.make C us []) (J.env0.make C us []) (hb _ (Value.ref (hp.objs.size + 1) :: us) J.kIn hl) (by rw [List.append_nil]; exact r2) hq) fun r s' hq' => ?_))
  match r, hq' with
  | .error er, hq' => exact hx pins σ _ _ er s' J hq'
  | .ok (.ret u), hq' =>
    obtain ⟨v, H2, os2, bare2, un2, hok2, rv, ⟨ev, q2⟩⟩ := hq'
    subst ev
    exact ⟨rv, .ref _, H2, J.call' (ch := []) os2 un2 hok2 bare2 (fun b z => nomatch z), rfl, q2⟩
/-- C() as a value, C without an own __init__ -/
theorem pe_mkX0 {x : Str} {p pos : Pos} {C : Addr} {bmB : List Value} {B newId initId : String} (F : ExcBaseFacts B newId initId bmB) (q : PySem.W.excIn X.K C bmB newId = true) (gC : X.mg x = some (.ref C)) (kC : PySem.W.keepIn X.K (.ref C) = true) (hg : Gl X x) (hdb : (x == ("__debug__" : Str)) = false := by decide) :
    PE X (.Call (.Name x p) [] [] pos) (fun σ H Q => ∀ a, H a = none → Q (.ref a) (upd H a (ExO (.ref C) a))) := by
  refine ⟨fun pins s σ H Q I h => wpAny_Call_Name_kw (ld_glob I hg gC (PySem.W.callWith_K0 I.kIn kC ?_) hdb)⟩
  obtain ⟨bm, N, nm, qn, bs, hdct, sn, sub, ab, col, dd, k0, k1, k2, k3, k5, mN, hC, hN, hni, T⟩ := exc_obj I.kIn q
  obtain ⟨hp, g, dr, tk, os⟩ := s
  refine wpAny_call_exc_subT F T hC hN hni (fun h' a hm => ?_) (by show 0 ≤ sizeLine; omega)
  have hn : H a = none := I.hok.gone hm.new
  obtain ⟨t, ht, _, _⟩ := hm.there
  exact ⟨.ref a, upd H a (ExO (.ref C) a), I.laidN hm.keeps hm.new hn (exO_ok ht ⟨rfl, rfl⟩ rfl rfl rfl (show 4 < 6 by decide)), rfl, h a hn⟩
end
end Wq
set_option Elab.async false
set_option linter.all false
set_option maxRecDepth 100000
set_option maxHeartbeats 2000000
namespace Wq
open PySem PySem.Spec PyProof.Rows L2
def top (i : Nat) : Stmt := PySem.Challenge.pw_wordquarry_k00_errors_and_signs.main.body.getD i (.Pass ⟨0, 0, 0, 0⟩)
/-! callables by name -/
structure Cl (P : Program) (w : World) (K : PySem.W.Frag) (mg : Str → Option Value) (base : Heap) (k : Nat) (x : Str) (sp : Sp) : Prop where
  ex : ∃ (f : Addr) (fd : FuncData) (ps : List Str), FnOk P w K mg base CX0 k f fd ps sp ∧ mg x = some (.ref f) ∧ PySem.W.keepIn K (.ref f) = true ∧ Binds K fd ps []
structure DefAt (K : PySem.W.Frag) (mg : Str → Option Value) (x : Str) (st : Stmt) : Prop where
  ex : ∃ (f : Addr) (fd : FuncData), Fun K x x st f fd ∧ mg x = some (.ref f)
theorem def_mk {h : Heap} {mg : Str → Option Value} {K : PySem.W.Frag} {x : Str} {st : Stmt} {f : Addr} {oc : Value} {od an : Option Addr} {osl : Array (Option Value)} {kV doc pm cdv ct : Value} (X : K.In h) (G : h.Ns mainGlobals mg)
    (a : PySem.W.nsIn K mainGlobals x = some (some (.ref f))) (l : K.lookup f = some ⟨oc, od, .func (PySem.W.fnOf x x (defArgs st) (defBody st) (defScope st) .none kV doc pm an cdv ct), osl⟩)
    (c : PySem.W.codeIn K cdv x = true) (k : PySem.W.keepIn K (.ref f) = true) : DefAt K mg x st := ⟨f, _, fun_mk l c k, PySem.W.mg_of X G a⟩
section
variable {X : Cx} {k j : Nat} {x : Str} {sp : Sp} {p pos : Pos} {e : Expr} {es : List Expr} {t : TA}
theorem pe_cl (c : Cl X.prog X.w X.K X.mg X.base k x sp) (hr : Room j X.A) (hk : k ≤ j) (hg : Gl X x) (ha : PA X (e :: es) t)
    (hdb : (x == ("__debug__" : Str)) = false := by decide) (he : starEach (e :: es) X.env = (false, eval e X.env) :: starEach es X.env := by rfl) (hpl : (backTo pos (starEach es X.env)).any (·.1) = false := by rfl) :
    PE X (.Call (.Name x p) (e :: es) [] pos) (tCall sp [] E0 t) := by
  obtain ⟨f, fd, ps, F, hm, kp, b⟩ := c.ex
  exact pe_call F (hr.mono hk) hg hm kp b .nil pass0 ha hdb he hpl
end
section
variable {P : Program} {w : World} {K : PySem.W.Frag} {mg : Str → Option Value} {base : Heap}
theorem cl_of {x : Str} {st : Stmt} {N ps : List Str} {k : Nat} {sp : Sp} (D : DefAt K mg x st) (S : FnScope N ps (defScope st)) (len : ∀ vs H Q E, sp vs H Q E → vs.length = ps.length)
    (hb : ∀ (kV doc pm : Value) (an : Option Addr) (cdv ct : Value) (us : List Value), us.length = ps.length → bindArgs (PySem.W.fnOf x x (defArgs st) (defBody st) (defScope st) .none kV doc pm an cdv ct) ⟨us, []⟩ = pure (ps.zip us))
    (hbody : ∀ (f : Addr) (cdv : Value) (A : Around) (outer : List Env) (s : Shared) (H : Hp) (vs : List V) (Q : VK) (E : XK), Room k (A.deeper (envOfC x (defScope st) s.heap.objs.size f cdv)) → sp vs H Q E →
      ∃ t, PSs (cxOf CX0 P w K mg base N x (defScope st) f cdv A outer s H E).nox (defBody st) t ∧ t { nx := fun _ H' => Q .non H', rt := Q } (start N vs) H) : Cl P w K mg base (k + 1) x sp := by
  obtain ⟨f, fd, F, hm⟩ := D.ex
  exact ⟨f, fd, ps, F.ok S len (hbody f), hm, F.kp, F.binds hb⟩
/-! what the law's own words want of the top -/
structure Txt (K : PySem.W.Frag) (mg : Str → Option Value) : Prop where
  len : mg "len" = none
  int : mg "int" = none
  list : mg "list" = none
  range : mg "range" = none
  tuple : mg "tuple" = none
  min : mg "min" = none
/-! the pen -/
abbrev kv (s : Str) (v : V) : Key × V := (Sum.inr s, v)
def penD (c : Addr) (i d n f : Int) : List (Key × V) := [kv "cells" (.ref c), kv "at" (.int i), kv "digits" (.int d), kv "count" (.int n), kv "fold" (.int f)]
structure PenAt (H : Hp) (p c : Addr) (m : Nat) : Prop where
  ex : ∃ (ns : List Int) (i d f : Int) (n : Nat), H p = some (.dK (penD c i d n f)) ∧ H c = some (.lst (ns.map V.int)) ∧ 0 ≤ i ∧ 0 ≤ d ∧ n ≤ m ∧ 0 ≤ f ∧ f < 2147483587
theorem SqL_upd {H : Hp} {p c : Addr} {xs : List V} {kvs : List (Key × V)} {o : HO} (h : SqL K H c xs) (hp : H p = some (.dK kvs)) : SqL K (upd H p o) c xs := by
  rcases h with (h | ⟨u, h⟩) | h
  · refine .inl (.inl ?_)
    rw [upd_ne (ne_of h hp (by intro z; cases z))]
    exact h
  · refine .inl (.inr ⟨u, ?_⟩)
    rw [upd_ne (ne_of h hp (by intro z; cases z))]
    exact h
  · exact .inr h
section
variable {H : Hp} {p c : Addr} {i d n f x : Int}
theorem g_cells (h : H p = some (.dK (penD c i d n f))) : DGet H p (.str "cells") (some (.ref c)) := DGet.k (k := Sum.inr "cells") h
theorem g_at (h : H p = some (.dK (penD c i d n f))) : DGet H p (.str "at") (some (.int i)) := DGet.k (k := Sum.inr "at") h
theorem g_digits (h : H p = some (.dK (penD c i d n f))) : DGet H p (.str "digits") (some (.int d)) := DGet.k (k := Sum.inr "digits") h
theorem g_count (h : H p = some (.dK (penD c i d n f))) : DGet H p (.str "count") (some (.int n)) := DGet.k (k := Sum.inr "count") h
theorem g_fold (h : H p = some (.dK (penD c i d n f))) : DGet H p (.str "fold") (some (.int f)) := DGet.k (k := Sum.inr "fold") h
theorem p_count (h : H p = some (.dK (penD c i d n f))) : DPut H p (.str "count") (.int x) (upd H p (.dK (penD c i d x f))) := DPut.k (k := Sum.inr "count") h (by show 5 < sizeLine; decide)
theorem p_at : DPut (upd H p (.dK (penD c i d n f))) p (.str "at") (.int x) (upd H p (.dK (penD c x d n f))) := by
  have e := DPut.k (k := Sum.inr "at") (v := .int x) (upd_same (H := H) (a := p) (o := .dK (penD c i d n f))) (by show 5 < sizeLine; decide)
  rw [upd_upd] at e
  exact e
theorem p_digits : DPut (upd H p (.dK (penD c i d n f))) p (.str "digits") (.int x) (upd H p (.dK (penD c i x n f))) := by
  have e := DPut.k (k := Sum.inr "digits") (v := .int x) (upd_same (H := H) (a := p) (o := .dK (penD c i d n f))) (by show 5 < sizeLine; decide)
  rw [upd_upd] at e
  exact e
theorem p_fold : DPut (upd H p (.dK (penD c i d n f))) p (.str "fold") (.int x) (upd H p (.dK (penD c i d n x))) := by
  have e := DPut.k (k := Sum.inr "fold") (v := .int x) (upd_same (H := H) (a := p) (o := .dK (penD c i d n f))) (by show 5 < sizeLine; decide)
  rw [upd_upd] at e
  exact e
end
theorem PenAt.mono {H : Hp} {p c : Addr} {m m' : Nat} (h : PenAt H p c m) (hm : m ≤ m') : PenAt H p c m' := by
  obtain ⟨ns, i, d, f, n, h1, h2, h3, h4, h5, h6, h7⟩ := h.ex
  exact ⟨ns, i, d, f, n, h1, h2, h3, h4, by omega, h6, h7⟩
theorem PenAt.same {H H' : Hp} {p c : Addr} {m : Nat} (h : PenAt H p c m) (s : Same H H') : PenAt H' p c m := by
  obtain ⟨ns, i, d, f, n, h1, h2, h3⟩ := h.ex
  exact ⟨ns, i, d, f, n, s _ _ h1, s _ _ h2, h3⟩
theorem PenAt.dict {H : Hp} {p c : Addr} {m : Nat} (h : PenAt H p c m) : ∃ kvs, H p = some (.dK kvs) := by
  obtain ⟨ns, i, d, f, n, h1, _⟩ := h.ex
  exact ⟨_, h1⟩
theorem PenAt.cells {H : Hp} {p c : Addr} {m : Nat} (h : PenAt H p c m) : ∃ xs, H c = some (.lst xs) := by
  obtain ⟨ns, i, d, f, n, h1, h2, _⟩ := h.ex
  exact ⟨_, h2⟩
theorem PenAt.put {H : Hp} {p c l : Addr} {m : Nat} {o : HO} (h : PenAt H p c m) (hp : p ≠ l) (hc : c ≠ l) : PenAt (upd H l o) p c m := by
  obtain ⟨ns, i, d, f, n, h1, h2, h3⟩ := h.ex
  exact ⟨ns, i, d, f, n, by rw [upd_ne hp]; exact h1, by rw [upd_ne hc]; exact h2, h3⟩
theorem PenAt.ne {H : Hp} {p c l : Addr} {m : Nat} {o : HO} (h : PenAt H p c m) (hl : H l = some o) (ho : ∀ kvs, o ≠ .dK kvs) : l ≠ p := by
  obtain ⟨kvs, hk⟩ := h.dict
  exact ne_of hl hk (ho kvs)
/-- the pen moved on: lists stay -/
theorem PenAt.lst {H : Hp} {p c l : Addr} {m : Nat} {xs : List V} {o : HO} (h : PenAt H p c m) (hl : H l = some (.lst xs)) : upd H p o l = some (.lst xs) := by
  rw [upd_ne (h.ne hl (by intro kvs z; cases z))]
  exact hl
abbrev sPen : Stmt := top 40
abbrev sDraw : Stmt := top 41
abbrev sPick : Stmt := top 42
def spPen (K : PySem.W.Frag) : Sp := fun vs H Q _ => ∃ (a : Addr) (ns : List Int), vs = [.ref a] ∧ SqL K H a (ns.map V.int) ∧ ∀ p c H', H p = none → Same H H' → PenAt H' p c 0 → Q (.ref p) H'
def spDraw (K : PySem.W.Frag) : Sp := fun vs H Q _ => ∃ (p c : Addr) (m : Nat) (many : Int), vs = [.ref p, .int many] ∧ PenAt H p c m ∧ m < 1099511627776 ∧ 0 < many ∧ many.natAbs.log2 < 9000 ∧
  ∀ (v : Int) (o : HO), 0 ≤ v → v < many → PenAt (upd H p o) p c (m + 1) → Q (.int v) (upd H p o)
/-- what may be picked from: a list, a tuple, a text -/
inductive Some (K : PySem.W.Frag) (H : Hp) : V → List V → Prop
  | lst {l xs} : SqL K H l xs → Some K H (.ref l) xs
  | tup {l xs} : SqT K H l xs → Some K H (.ref l) xs
  | str {z} : z.length ≤ sizeLine → Some K H (.str z) (z.cps.toList.map fun c => V.str ⟨#[c]⟩)
def spPick (K : PySem.W.Frag) : Sp := fun vs H Q _ => ∃ (p c : Addr) (m : Nat) (u : V) (xs : List V), vs = [.ref p, u] ∧ PenAt H p c m ∧ Some K H u xs ∧ m < 1099511627776 ∧ 0 < xs.length ∧ xs.length < 1073741824 ∧
  ∀ (i : Nat) (v : V) (o : HO), xs[i]? = some v → PenAt (upd H p o) p c (m + 1) → Q v (upd H p o)
theorem scPen : FnScope ["_law_script", "_law_fold", "_law_cell"] ["_law_script"] (defScope sPen) := ⟨rfl, rfl, rfl, by decide +kernel, rfl, by decide +kernel, by decide +kernel⟩
theorem scDraw : FnScope ["_law_pen_here", "_law_many", "_law_cell", "_law_digit", "_law_mixed"] ["_law_pen_here", "_law_many"] (defScope sDraw) := ⟨rfl, rfl, rfl, by decide +kernel, rfl, by decide +kernel, by decide +kernel⟩
theorem scPick : FnScope ["_law_pen_here", "_law_some"] ["_law_pen_here", "_law_some"] (defScope sPick) := ⟨rfl, rfl, rfl, by decide +kernel, rfl, by decide +kernel, by decide +kernel⟩
theorem ints_at {ns : List Int} {i : Nat} {y : V} (hi : (ns.map V.int)[i]? = some y) : ∃ z, y = V.int z := by
  rw [List.getElem?_map] at hi
  cases e : ns[i]? with
  | none =>
    rw [e] at hi
    cases hi
  | some z =>
    rw [e] at hi
    exact ⟨z, (Option.some.inj hi).symm⟩
theorem ok_pen (D : DefAt K mg "_law_pen" sPen) (T : Txt K mg) : Cl P w K mg base 1 "_law_pen" (spPen K) := by
  refine cl_of D scPen (fun vs H Q E h => ?_) (fun _ _ _ _ _ _ us hl => match us, hl with | [_], _ => rfl) (fun f cdv A outer s H vs Q E hr h => ?_)
  · obtain ⟨a, ns, rfl, _⟩ := h
    rfl
  · obtain ⟨a, ns, rfl, hS, k⟩ := h
    refine ⟨_, pss_cons (ps_set (i := 1) scPen.nd rfl (Or.inl rfl) pe_int)
      (pss_cons (ps_for PassesOwn.never rfl (pi_list (pv 0)) (pg_name (i := 2) scPen.nd rfl (Or.inl rfl))
        (pss_one (ps_set (i := 1) scPen.nd rfl (Or.inl rfl) (pe_op op_mod (pe_callTy call_int1 (by rfl) (by exact T.int) PyProof.Rows.boot_int (pa_cons (pe_op op_add (pe_op op_mul (pv 1) pe_int) (pv 2)) pa_nil)) pe_int))))
      (pss_one (ps_ret (pe_disp (pps_cons pe_str (pe_callTy call_list_of (by rfl) (by exact T.list) (by decide +kernel) (pa_cons (pv 0) pa_nil)) (pps_cons pe_str pe_int (pps_cons pe_str pe_int (pps_cons pe_str pe_int (pps_cons pe_str (pv 1) pps_nil))))) (by rfl) (by rfl) (fun z => by cases z) (by decide))))), ?_⟩
    refine ⟨_, rfl, a, rfl, ⟨_, hS⟩, for_list (K := K) (a := a) (xs := ns.map V.int) (fun i σ H' => ∃ (n : Int) (v : Option V), σ = [some (.ref a), some (.int n), v] ∧ H' = H ∧ 0 ≤ n ∧ n < 1000000007)
      ⟨0, none, rfl, rfl, by decide, by decide⟩ (fun i σ H' _ ⟨_, _, _, e, _, _⟩ => by rw [e]; exact hS) ?_ ?_⟩
    · rintro i y σ H' hi ⟨n, v, rfl, rfl, h0, h1⟩
      obtain ⟨z, rfl⟩ := ints_at hi
      refine ⟨_, rfl, _, _, rfl, rfl, .inl ⟨by omega, by omega⟩, _, rfl, _, _, rfl, rfl, .inl ⟨_, rfl, _, _, rfl, rfl, (by show (0 : Int) < 1000000007; decide), ?_⟩⟩
      exact ⟨(n * 41 + z) % 1000000007, _, rfl, rfl, Int.emod_nonneg _ (by decide), Int.emod_lt_of_pos _ (by decide)⟩
    · rintro σ H' ⟨n, v, rfl, rfl, h0, h1⟩
      intro p hp
      have s1 : Same H' (upd H' p (.dK [])) := fun b o e => by rw [upd_ne (ne_of_none e hp)]; exact e
      refine ⟨_, rfl, a, _, rfl, .inl (s1.seq hS), fun l hl => ?_⟩
      have npl : p ≠ l := ne_of_none upd_same hl
      have s2 : Same H' (upd (upd (upd H' p (.dK [])) l (.lst (ns.map V.int))) p (.dK (mergeK [] (penD l 0 0 0 n)))) := fun b o e => by
        rw [upd_ne (ne_of_none e hp), upd_ne (ne_of_none (s1 b o e) hl)]
        exact s1 b o e
      refine ⟨_, rfl, by rw [upd_ne npl, upd_same], penD l 0 0 0 n, rfl, (by show 5 ≤ 15; decide), ?_⟩
      refine k p l _ hp s2 ⟨ns, 0, 0, n, 0, upd_same, ?_, by decide, by decide, by decide, h0, by omega⟩
      rw [upd_ne npl.symm, upd_same]
theorem ok_draw (D : DefAt K mg "_law_draw" sDraw) (T : Txt K mg) : Cl P w K mg base 1 "_law_draw" (spDraw K) := by
  refine cl_of D scDraw (fun vs H Q E h => ?_) (fun _ _ _ _ _ _ us hl => match us, hl with | [_, _], _ => rfl) (fun f cdv A outer s H vs Q E hr h => ?_)
  · obtain ⟨p, c, m, many, rfl, _⟩ := h
    rfl
  · obtain ⟨p, c, m, many, rfl, HP, hm, m0, m1, k⟩ := h
    obtain ⟨ns, i, d, f, n, hH, hc, hi, hd, hn, hf0, hf1⟩ := HP.ex
    have hu := hu_of hr
    refine ⟨_, pss_cons (ps_dput hu (pv 0) pe_str (pe_op op_add (pe_dget hu (pv 0) pe_str (fun _ _ => rfl)) pe_int) rfl)
      (C8.pss_cut (ps_if (PW.pt (pw_and (pt_cmpR op_eq (pe_dget hu (pv 0) pe_str (fun _ _ => rfl)) pe_int (nomark _)) (pw_and1 (pt_cmpR op_lt (pe_dget hu (pv 0) pe_str (fun _ _ => rfl)) (pe_callB call_len_seq (by rfl) (by exact T.len) PySem.boot_len (pa_cons (pe_dget hu (pv 0) pe_str (fun _ _ => rfl)) pa_nil)) (nomark _)))))
        (pss_cons (ps_set (i := 2) scDraw.nd rfl (Or.inl rfl) (pe_ix ix_list (pe_dget hu (pv 0) pe_str (fun _ _ => rfl)) (pe_dget hu (pv 0) pe_str (fun _ _ => rfl)) (fun _ _ => rfl)))
        (pss_cons (ps_dput hu (pv 0) pe_str (pe_op op_add (pe_dget hu (pv 0) pe_str (fun _ _ => rfl)) pe_int) rfl)
        (pss_one (ps_if (pt_cmpR op_ge (pv 2) (pe_op op_pow pe_int pe_int) (nomark _))
          (pss_one (ps_dput hu (pv 0) pe_str (pe_op op_sub (pv 2) (pe_op op_pow pe_int pe_int)) rfl))
          (pss_one (ps_dput hu (pv 0) pe_str (pe_op op_mod (pe_callTy call_int1 (by rfl) (by exact T.int) PyProof.Rows.boot_int (pa_cons (pe_op op_add (pe_op op_mul (pe_dget hu (pv 0) pe_str (fun _ _ => rfl)) pe_int) (pv 2)) pa_nil)) pe_int) rfl))))))
        pss_nil)
      (pss_cons (ps_if (pt_cmpR op_gt (pe_dget hu (pv 0) pe_str (fun _ _ => rfl)) pe_int (nomark _))
        (pss_cons (ps_set (i := 3) scDraw.nd rfl (Or.inl rfl) (pe_op op_modN (pe_callTy call_int1 (by rfl) (by exact T.int) PyProof.Rows.boot_int (pa_cons (pe_dget hu (pv 0) pe_str (fun _ _ => rfl)) pa_nil)) (pv 1)))
        (pss_cons (ps_dput hu (pv 0) pe_str (pe_op op_fdivW (pe_dget hu (pv 0) pe_str (fun _ _ => rfl)) (pv 1)) rfl)
        (pss_one (ps_ret (pv 3))))) pss_nil)
      (pss_cons (ps_set (i := 4) scDraw.nd rfl (Or.inl rfl) (pe_op op_add (pe_op op_add (pe_dget hu (pv 0) pe_str (fun _ _ => rfl)) (pe_op op_mul (pe_dget hu (pv 0) pe_str (fun _ _ => rfl)) pe_int)) pe_int))
      (pss_one (ps_ret (pe_op op_modN (pe_op op_fdivN (pe_callTy call_int1 (by rfl) (by exact T.int) PyProof.Rows.boot_int (pa_cons (pe_op op_modN (pe_op op_pow (pv 4) pe_int) pe_int) pa_nil)) pe_int) (pv 1))))))), ?_⟩
    -- count
    refine ⟨_, rfl, p, _, rfl, g_count hH, _, _, rfl, rfl, _, rfl, p, _, rfl, p_count hH, ?_⟩
    have S1 : ∀ o, upd H p o c = some (.lst (ns.map V.int)) := fun o => HP.lst hc
    have S0 : ∀ o, SqL K (upd H p o) c (ns.map V.int) := fun o => .inl (.inl (S1 o))
    refine ⟨fun σ H' => ∃ (i' d' f' : Int) (v : Option V), σ = [some (.ref p), some (.int many), v, none, none] ∧ H' = upd H p (.dK (penD c i' d' ((n : Int) + 1) f')) ∧ 0 ≤ i' ∧ 0 ≤ d' ∧ 0 ≤ f' ∧ f' < 2147483587, ?_, ?_⟩
    · -- the digits are used up?
      refine ⟨_, rfl, p, _, rfl, g_digits upd_same, rfl, _, rfl, ?_⟩
      refine ite2 (fun _ => ?_) (fun _ => ⟨i, d, f, none, rfl, rfl, hi, hd, hf0, hf1⟩)
      refine ⟨_, rfl, p, _, rfl, g_at upd_same, _, rfl, p, _, rfl, g_cells upd_same, c, _, rfl, .inl (S0 _), _, _, rfl, rfl, _, rfl, ?_⟩
      refine ite2 (fun hlt => ?_) (fun _ => ⟨i, d, f, none, rfl, rfl, hi, hd, hf0, hf1⟩)
      have hlt := of_decide_eq_true hlt
      rw [List.length_map] at hlt
      obtain ⟨z, hz⟩ : ∃ z, (ns.map V.int)[i.toNat]? = some (V.int z) := by
        refine ⟨ns[i.toNat]'(by omega), ?_⟩
        rw [List.getElem?_map, List.getElem?_eq_getElem (by omega)]
        rfl
      have hat : atI (ns.map V.int) i = some (V.int z) := by
        have e : i = ((i.toNat : Nat) : Int) := by omega
        rw [e]
        exact atI_nat hz
      refine ⟨_, rfl, p, _, rfl, g_cells upd_same, _, rfl, p, _, rfl, g_at upd_same, c, _, _, _, rfl, rfl, S0 _, hat, ?_⟩
      refine ⟨_, rfl, p, _, rfl, g_at upd_same, _, _, rfl, rfl, _, rfl, p, _, rfl, p_at, ?_⟩
      refine ⟨_, rfl, _, _, rfl, rfl, ⟨by decide, by decide, by decide⟩, _, _, rfl, rfl, _, rfl, ?_⟩
      refine ite2 (fun hge => ?_) (fun _ => ?_)
      · have hge := of_decide_eq_true hge
        refine ⟨_, rfl, _, _, rfl, rfl, ⟨by decide, by decide, by decide⟩, _, _, rfl, rfl, _, rfl, p, _, rfl, p_digits, ?_⟩
        exact ⟨_, _, f, _, rfl, rfl, by omega, Int.sub_nonneg.mpr hge, hf0, hf1⟩
      · refine ⟨_, rfl, p, _, rfl, g_fold upd_same, _, _, rfl, rfl, .inl ⟨by omega, by omega⟩, _, rfl, _, _, rfl, rfl, .inl ⟨_, rfl, _, _, rfl, rfl, (by show (0 : Int) < 2147483587; decide), _, rfl, p, _, rfl, p_fold, ?_⟩⟩
        exact ⟨_, _, _, _, rfl, rfl, by omega, hd, Int.emod_nonneg _ (by decide), Int.emod_lt_of_pos _ (by decide)⟩
    · rintro σ H' ⟨i', d', f', v, rfl, rfl, hi', hd', hf0', hf1'⟩
      have pen : ∀ d'', 0 ≤ d'' → PenAt (upd H p (.dK (penD c i' d'' ((n : Int) + 1) f'))) p c (m + 1) := fun d'' h0 => ⟨ns, i', d'', f', n + 1, upd_same, S1 _, hi', h0, by omega, hf0', hf1'⟩
      refine ⟨_, rfl, p, _, rfl, g_digits upd_same, _, _, rfl, rfl, _, rfl, ?_⟩
      refine ite2 (fun _ => ?_) (fun _ => ?_)
      · refine ⟨_, rfl, p, _, rfl, g_digits upd_same, .inl ⟨_, rfl, _, rfl, _, _, rfl, rfl, by omega, ?_⟩⟩
        refine ⟨_, rfl, p, _, rfl, g_digits upd_same, _, rfl, _, _, rfl, rfl, ⟨m0, m1⟩, _, rfl, p, _, rfl, p_digits, ?_⟩
        refine ⟨_, rfl, ?_⟩
        exact k _ _ (Int.fmod_nonneg_of_pos _ m0) (Int.fmod_lt_of_pos _ m0) (pen _ (Int.ediv_nonneg hd' (by omega)))
      · refine ⟨_, rfl, p, _, rfl, g_fold upd_same, _, rfl, p, _, rfl, g_count upd_same, _, _, rfl, rfl, .inl ⟨by omega, by omega⟩, _, _, rfl, rfl, _, _, rfl, rfl, ?_⟩
        refine ⟨_, rfl, _, _, rfl, rfl, ⟨by decide, by decide, by omega⟩, _, _, rfl, rfl, (by show (2305843009213693951 : Int) ≠ 0; decide), .inl ⟨_, rfl, _, _, rfl, rfl, ⟨by decide, by decide⟩, _, rfl, _, _, rfl, rfl, by omega, ?_⟩⟩
        exact k _ _ (Int.fmod_nonneg_of_pos _ m0) (Int.fmod_lt_of_pos _ m0) (pen _ hd')
theorem SqT_upd {H : Hp} {p c : Addr} {xs : List V} {kvs : List (Key × V)} {o : HO} (h : SqT K H c xs) (hp : H p = some (.dK kvs)) : SqT K (upd H p o) c xs := by
  rcases h with (h | ⟨u, h⟩) | h
  · refine .inl (.inl ?_)
    rw [upd_ne (ne_of h hp (by intro z; cases z))]
    exact h
  · refine .inl (.inr ⟨u, ?_⟩)
    rw [upd_ne (ne_of h hp (by intro z; cases z))]
    exact h
  · exact .inr h
theorem ok_pick (D : DefAt K mg "_law_pick" sPick) (T : Txt K mg) (CD : Cl P w K mg base 1 "_law_draw" (spDraw K)) : Cl P w K mg base 2 "_law_pick" (spPick K) := by
  refine cl_of D scPick (fun vs H Q E h => ?_) (fun _ _ _ _ _ _ us hl => match us, hl with | [_, _], _ => rfl) (fun f cdv A outer s H vs Q E hr h => ?_)
  · obtain ⟨p, c, m, u, xs, rfl, _⟩ := h
    rfl
  · obtain ⟨p, c, m, u, xs, rfl, HP, hS, hm, m0, m1, k⟩ := h
    refine ⟨_, pss_one (ps_ret (pe_ix ix_seq (pv 1) (pe_cl CD hr (Nat.le_refl _) rfl (pa_cons (pv 0) (pa_cons (pe_callB call_len (by rfl) (by exact T.len) PySem.boot_len (pa_cons (pv 1) pa_nil)) pa_nil))) (fun _ _ => rfl))), ?_⟩
    obtain ⟨kvs, hk⟩ := HP.dict
    have hln : LenV K u H xs.length := by
      cases hS with
      | lst h => exact .inl ⟨_, h, rfl⟩
      | tup h => exact .inr ⟨_, h, rfl⟩
      | str h => exact ⟨h, by rw [List.length_map]; exact (Array.length_toList).symm⟩
    refine ⟨_, rfl, _, rfl, _, rfl, _, _, rfl, hln, ?_⟩
    refine ⟨p, c, m, _, rfl, HP, hm, by omega, ?_, fun v o v0 v1 HP' => ?_⟩
    · have h2 : (xs.length : Int).natAbs.log2 < 30 := PySem.Flt.log2_lt_of (by decide) (by omega)
      omega
    obtain ⟨y, hv⟩ : ∃ y, xs[v.toNat]? = some y := ⟨xs[v.toNat]'(by omega), List.getElem?_eq_getElem (by omega)⟩
    have e : v = ((v.toNat : Nat) : Int) := by omega
    have hq := k v.toNat y o hv HP'
    cases hS with
    | lst h => exact .inl ⟨_, xs, v, y, rfl, rfl, SqL_upd h hk, by rw [e]; exact atI_nat hv, hq⟩
    | tup h => exact .inr (.inl ⟨_, xs, v, y, rfl, rfl, SqT_upd h hk, by rw [e]; exact atI_nat hv, hq⟩)
    | @str z h =>
      rw [List.getElem?_map] at hv
      cases ec : z.cps.toList[v.toNat]? with
      | none => rw [ec] at hv; cases hv
      | some cc =>
        rw [ec] at hv
        obtain rfl := Option.some.inj hv
        exact .inr (.inr ⟨z, v, cc, rfl, rfl, h, by rw [e]; exact atI_nat ec, hq⟩)
end
end Wq
set_option Elab.async false
set_option linter.all false
set_option maxRecDepth 100000
set_option maxHeartbeats 2000000
namespace Wq
open PySem PySem.Spec PyProof.Rows L2
open SD (mem dnum sg)
def SG : Str := "\n !\"#$&'()*+,-./0123456789:;<=>?@ABCDEFGHIJKLMNOPQRSTUVWXYZ[\\]^_`abcdefghijklmnopqrstuvwxyz{|}~"
def SM : Str := "abcdefghijklmnopqrstuvwxyz"
structure TxtX (mg : Str → Option Value) : Prop where
  isi : mg "isinstance" = none
  str : mg "str" = none
  bool : mg "bool" = none
  set : mg "set" = none
  repr : mg "repr" = none
  ve : mg "ValueError" = none
  sg : ∃ t, mg "SIGNS" = some (.str SG t)
  sm : ∃ t, mg "SMALL" = some (.str SM t)
  wl : ∃ t, mg "WORD_LENGTH" = some (.int 40 t)
  nl : ∃ t, mg "NAME_LENGTH" = some (.int 12 t)
theorem pgi {X : Cx} {x : Str} {n : Int} {t : Tok} {pos : Pos} (hm : X.mg x = some (.int n t)) (hg : Gl X x := by rfl) (hd : (x == ("__debug__" : Str)) = false := by decide) : PE X (.Name x pos) (tC (.int n)) := pe_glob hg hm ⟨_, rfl⟩ hd
theorem pgs {X : Cx} {x : Str} {z : Str} {t : Tok} {pos : Pos} (hm : X.mg x = some (.str z t)) (hg : Gl X x := by rfl) (hd : (x == ("__debug__" : Str)) = false := by decide) : PE X (.Name x pos) (tC (.str z)) := pe_glob hg hm ⟨_, rfl⟩ hd
/-- the law's odd values: what they show, their type -/
inductive OV (K : PySem.W.Frag) (H : Hp) : V → PyData → String → Prop
  | non : OV K H .non .none "NoneType"
  | bl (b : Bool) : OV K H (.bl b) (.bool b) "bool"
  | int (i : Int) : i.natAbs < 1000 → OV K H (.int i) (.int i) "int"
  | str (x : Str) : x.cps.size ≤ 60 → (∀ c ∈ x.cps.toList, c < 128) → OV K H (.str x) (.str x) "str"
  | lst {a : Addr} {x : Str} : H a = some (.lst [.str x]) → a ≠ sysModules → x.cps.size ≤ 60 → (∀ c ∈ x.cps.toList, c < 128) → OV K H (.ref a) (.list [.str x]) "list"
  | tup {a : Addr} {x : Str} : H a = some (.tup [.str x]) → x.cps.size ≤ 60 → (∀ c ∈ x.cps.toList, c < 128) → OV K H (.ref a) (.tuple [.str x]) "tuple"
  | emp {a : Addr} : H a = some (.dK []) → OV K H (.ref a) (.dict []) "dict"
theorem OV.same {K : PySem.W.Frag} {H H' : Hp} {v : V} {d : PyData} {t : String} (h : OV K H v d t) (s : Same H H') : OV K H' v d t := by
  cases h with
  | non => exact .non
  | bl b => exact .bl b
  | int i h => exact .int i h
  | str x h1 h2 => exact .str x h1 h2
  | lst h1 h2 h3 h4 => exact .lst (s _ _ h1) h2 h3 h4
  | tup h1 h2 h3 => exact .tup (s _ _ h1) h2 h3
  | emp h1 => exact .emp (s _ _ h1)
theorem OV.ty {K : PySem.W.Frag} {H : Hp} {v : V} {d : PyData} {t : String} (h : OV K H v d t) : TyX K H v (.type t) := by
  cases h with
  | non => exact .base .non
  | bl b => exact .base (.bl b)
  | int i h => exact .base (.int i)
  | str x h1 h2 => exact .base (.str x)
  | lst h1 h2 h3 h4 => exact .base (.lst h1)
  | tup h1 h2 h3 => exact .base (.tup h1)
  | emp h1 => exact .base (.dK h1)
def isS : PyData → Bool
  | .str _ => true
  | _ => false
def isB : PyData → Bool
  | .bool _ => true
  | _ => false
def isI : PyData → Bool
  | .bool _ => true
  | .int _ => true
  | _ => false
theorem OV.kS {K : PySem.W.Frag} {H : Hp} {v : V} {d : PyData} {t : String} (h : OV K H v d t) : PySem.W.kitOne K (.type t) (.type "str") = some (isS d) := by
  cases h <;> first | exact kit_ty (r := true) (by decide +kernel) | exact kit_ty (r := false) (by decide +kernel)
theorem OV.kI {K : PySem.W.Frag} {H : Hp} {v : V} {d : PyData} {t : String} (h : OV K H v d t) : PySem.W.kitOne K (.type t) (.type "int") = some (isI d) := by
  cases h <;> first | exact kit_ty (r := true) (by decide +kernel) | exact kit_ty (r := false) (by decide +kernel)
theorem OV.kB {K : PySem.W.Frag} {H : Hp} {v : V} {d : PyData} {t : String} (h : OV K H v d t) : PySem.W.kitOne K (.type t) (.type "bool") = some (isB d) := by
  cases h <;> first | exact kit_ty (r := true) (by decide +kernel) | exact kit_ty (r := false) (by decide +kernel)
/-- what the text functions tell -/
def allIn (z : Str) (x : Str) : Bool := x.cps.toList.all fun c => decide (c ∈ z.cps.toList)
def fSign : PyData → Bool
  | .str x => decide (x.cps.size = 1) && allIn SG x
  | _ => false
def fText : PyData → Bool
  | .str x => allIn SG x
  | _ => false
def fRow : PyData → Bool
  | .str x => allIn SG x && (decide (0 < x.cps.size) && (!decide (32 ∈ x.cps.toList) && !decide (10 ∈ x.cps.toList)))
  | _ => false
def fWord : PyData → Bool
  | .str x => fRow (.str x) && decide (x.cps.size ≤ 40)
  | _ => false
def fName : PyData → Bool
  | .str x => decide (1 ≤ x.cps.size) && decide (x.cps.size ≤ 12) && allIn SM x
  | _ => false
def fInt : PyData → Bool := fun d => isI d && !isB d
def spF (K : PySem.W.Frag) (f : PyData → Bool) : Sp := fun vs H Q _ => ∃ (v : V) (d : PyData) (t : String), vs = [v] ∧ OV K H v d t ∧ ∀ H', Same H H' → Q (.bl (f d)) H'
abbrev sAll : Stmt := top 5
abbrev sSign : Stmt := top 6
abbrev sText : Stmt := top 7
abbrev sRow : Stmt := top 8
abbrev sWord : Stmt := top 9
abbrev sName : Stmt := top 10
abbrev sInt : Stmt := top 11
abbrev sLines : Stmt := top 12
theorem scAll : FnScope [] [] (defScope sAll) := ⟨rfl, rfl, rfl, by decide +kernel, rfl, by decide +kernel, by decide +kernel⟩
theorem scSign : FnScope ["value"] ["value"] (defScope sSign) := ⟨rfl, rfl, rfl, by decide +kernel, rfl, by decide +kernel, by decide +kernel⟩
theorem scText : FnScope ["value"] ["value"] (defScope sText) := ⟨rfl, rfl, rfl, by decide +kernel, rfl, by decide +kernel, by decide +kernel⟩
theorem scRow : FnScope ["value"] ["value"] (defScope sRow) := ⟨rfl, rfl, rfl, by decide +kernel, rfl, by decide +kernel, by decide +kernel⟩
theorem scWord : FnScope ["value"] ["value"] (defScope sWord) := ⟨rfl, rfl, rfl, by decide +kernel, rfl, by decide +kernel, by decide +kernel⟩
theorem scName : FnScope ["value"] ["value"] (defScope sName) := ⟨rfl, rfl, rfl, by decide +kernel, rfl, by decide +kernel, by decide +kernel⟩
theorem scInt : FnScope ["value"] ["value"] (defScope sInt) := ⟨rfl, rfl, rfl, by decide +kernel, rfl, by decide +kernel, by decide +kernel⟩
theorem scLines : FnScope ["text"] ["text"] (defScope sLines) := ⟨rfl, rfl, rfl, by decide +kernel, rfl, by decide +kernel, by decide +kernel⟩
theorem szl {x : Str} {n : Nat} (h : x.cps.size ≤ n) (hn : n ≤ 1000 := by decide) : x.length ≤ sizeLine := Nat.le_of_lt (small1000 (Nat.le_trans h hn))
section
variable {P : Program} {w : World} {K : PySem.W.Frag} {mg : Str → Option Value} {base : Heap}
theorem ok_Int (D : DefAt K mg "is_integer" sInt) (T : Txt K mg) (TX : TxtX mg) : Cl P w K mg base 1 "is_integer" (spF K fInt) := by
  refine cl_of D scInt (fun vs H Q E h => ?_) (fun _ _ _ _ _ _ us hl => match us, hl with | [_], _ => rfl) (fun f cdv A outer s H vs Q E hr h => ?_)
  · obtain ⟨v, d, t, rfl, _⟩ := h
    rfl
  · obtain ⟨v, d, t, rfl, hv, k⟩ := h
    refine ⟨_, pss_one (ps_ret (pe_and (pe_callB call_isi (by rfl) (by exact TX.isi) (by decide +kernel) (pa_cons (pv 0) (pa_cons (pe_bltn rfl (by exact T.int) (by decide +kernel) (v := .ty "int") rfl) pa_nil))) (pe_one (pe_not (pe_callB call_isi (by rfl) (by exact TX.isi) (by decide +kernel) (pa_cons (pv 0) (pa_cons (pe_bltn rfl (by exact TX.bool) (by decide +kernel) (v := .ty "bool") rfl) pa_nil))))))), ?_⟩
    refine ⟨_, rfl, v, .ty "int", _, _, _, rfl, .ty "int", hv.ty, hv.kI, _, rfl, ?_⟩
    have kk := k H (.refl H)
    refine ite2 (fun hi => ?_) (fun hi => ?_)
    · refine ⟨_, rfl, v, .ty "bool", _, _, _, rfl, .ty "bool", hv.ty, hv.kB, _, rfl, ?_⟩
      unfold fInt at kk
      rw [show isI d = true from hi] at kk
      exact kk
    · unfold fInt at kk
      rw [show isI d = false from eq_false_of_ne_true hi] at kk
      exact kk
theorem ok_All (D : DefAt K mg "all_signs" sAll) (TX : TxtX mg) : Cl P w K mg base 1 "all_signs" (fun vs H Q _ => vs = [] ∧ Q (.str SG) H) := by
  obtain ⟨t1, TX1⟩ := TX.sg
  refine cl_of D scAll (fun vs H Q E h => ?_) (fun _ _ _ _ _ _ us hl => match us, hl with | [], _ => rfl) (fun f cdv A outer s H vs Q E hr h => ?_)
  · obtain ⟨rfl, _⟩ := h
    rfl
  · obtain ⟨rfl, k⟩ := h
    exact ⟨_, pss_one (ps_ret (pgs (by exact TX1))), k⟩
theorem ok_Sign (D : DefAt K mg "is_sign" sSign) (T : Txt K mg) (TX : TxtX mg) : Cl P w K mg base 1 "is_sign" (spF K fSign) := by
  obtain ⟨t1, TX1⟩ := TX.sg
  refine cl_of D scSign (fun vs H Q E h => ?_) (fun _ _ _ _ _ _ us hl => match us, hl with | [_], _ => rfl) (fun f cdv A outer s H vs Q E hr h => ?_)
  · obtain ⟨v, d, t, rfl, _⟩ := h
    rfl
  · obtain ⟨v, d, t, rfl, hv, k⟩ := h
    refine ⟨_, pss_one (ps_ret (pe_and (pe_callB call_isi (by rfl) (by exact TX.isi) (by decide +kernel) (pa_cons (pv 0) (pa_cons (pe_bltn rfl (by exact TX.str) (by decide +kernel) (v := .ty "str") rfl) pa_nil))) (pe_and (pe_cmpR op_eq (pe_callB call_len (by rfl) (by exact T.len) PySem.boot_len (pa_cons (pv 0) pa_nil)) pe_int (nomark _)) (pe_one (pe_cmpR op_in_sign (pv 0) (pgs (by exact TX1)) rfl))))), ?_⟩
    refine ⟨_, rfl, v, .ty "str", _, _, _, rfl, .ty "str", hv.ty, hv.kS, _, rfl, ?_⟩
    have kk := k H (.refl H)
    refine ite2 (fun hi => ?_) (fun hi => ?_)
    · cases hv <;> try (cases hi; done)
      rename_i x hx ha
      refine ⟨_, rfl, _, _, rfl, ⟨szl hx, rfl⟩, rfl, _, rfl, ?_⟩
      refine ite2 (fun h1 => ?_) (fun h1 => ?_)
      · have h1 : x.length = 1 := by
          have := V.int.inj (of_decide_eq_true h1)
          omega
        obtain ⟨c, hc⟩ : ∃ c, x = ⟨#[c]⟩ := by
          obtain ⟨l, hl⟩ : ∃ l, x.cps.toList = l := ⟨_, rfl⟩
          have h2 : l.length = 1 := by rw [← hl, Array.length_toList]; exact h1
          match l, h2 with
          | [c], _ =>
            refine ⟨c, ?_⟩
            obtain ⟨cps⟩ := x
            have : cps = #[c] := by
              apply Array.toList_inj.mp
              exact hl
            rw [this]
        subst hc
        refine ⟨_, rfl, c, SG, rfl, rfl, ?_⟩
        have e : fSign (.str ⟨#[c]⟩) = decide (c ∈ SG.cps.toList) := by
          show (decide ((1 : Nat) = 1) && ([c].all fun c => decide (c ∈ SG.cps.toList))) = _
          simp
        rw [e] at kk
        exact kk
      · have h1 : ¬ x.cps.size = 1 := fun z => h1 (decide_eq_true (by
          show V.int ((x.cps.size : Nat) : Int) = V.int 1
          rw [z] <;> rfl))
        have e : fSign (.str x) = false := by
          show (decide (x.cps.size = 1) && _) = false
          rw [decide_eq_false h1]
          rfl
        rw [e] at kk
        exact kk
    · cases hv <;> first | exact kk | exact absurd rfl hi
/-- the set of the signs that a text has beside another one's -/
theorem allIn_iff {z x : Str} : allIn z x = true ↔ ∀ k, mem x.cps.toList.reverse k = true → mem z.cps.toList.reverse k = true := by
  unfold allIn
  rw [List.all_eq_true]
  constructor
  · intro h k hk
    unfold SD.mem at hk ⊢
    rw [List.any_eq_true] at hk ⊢
    obtain ⟨c, hc, e⟩ := hk
    refine ⟨c, ?_, e⟩
    rw [List.mem_reverse] at hc ⊢
    exact of_decide_eq_true (h c hc)
  · intro h c hc
    have := h (sg c) (by rw [SD.mem_sg]; exact decide_eq_true (List.mem_reverse.mpr hc))
    rw [SD.mem_sg] at this
    exact decide_eq_true (List.mem_reverse.mp (of_decide_eq_true this))
theorem dn_le {x : Str} : dnum x.cps.toList.reverse ≤ x.cps.size := by
  have := SD.dnum_le x.cps.toList.reverse
  rw [List.length_reverse, Array.length_toList] at this
  exact this
theorem SG_dn : dnum SG.cps.toList.reverse = 95 := by decide +kernel
theorem SM_dn : dnum SM.cps.toList.reverse = 26 := by decide +kernel
theorem SG_sz : SG.cps.size = 95 := by decide +kernel
theorem SM_sz : SM.cps.size = 26 := by decide +kernel
theorem ok_Text (D : DefAt K mg "is_text" sText) (T : Txt K mg) (TX : TxtX mg) : Cl P w K mg base 1 "is_text" (spF K fText) := by
  obtain ⟨t1, TX1⟩ := TX.sg
  refine cl_of D scText (fun vs H Q E h => ?_) (fun _ _ _ _ _ _ us hl => match us, hl with | [_], _ => rfl) (fun f cdv A outer s H vs Q E hr h => ?_)
  · obtain ⟨v, d, t, rfl, _⟩ := h
    rfl
  · obtain ⟨v, d, t, rfl, hv, k⟩ := h
    refine ⟨_, pss_one (ps_ret (pe_and (pe_callB call_isi (by rfl) (by exact TX.isi) (by decide +kernel) (pa_cons (pv 0) (pa_cons (pe_bltn rfl (by exact TX.str) (by decide +kernel) (v := .ty "str") rfl) pa_nil))) (pe_one (pe_cmpR op_eq (pe_callB call_lenT (by rfl) (by exact T.len) PySem.boot_len (pa_cons (pe_op op_subT (pe_callTy (cr_setT rfl) (by rfl) (by exact TX.set) (by decide +kernel) (pa_cons (pv 0) pa_nil)) (pe_callTy (cr_setT rfl) (by rfl) (by exact TX.set) (by decide +kernel) (pa_cons (pgs (by exact TX1)) pa_nil))) pa_nil)) pe_int (nomark _))))), ?_⟩
    refine ⟨_, rfl, v, .ty "str", _, _, _, rfl, .ty "str", hv.ty, hv.kS, _, rfl, ?_⟩
    have kk := k H (.refl H)
    refine ite2 (fun hi => ?_) (fun hi => ?_)
    · cases hv <;> try (cases hi; done)
      rename_i x hx ha
      refine ⟨_, rfl, x, rfl, by omega, fun a1 h1 => ⟨SG, rfl, by rw [SG_sz]; decide, fun a2 h2 => ?_⟩⟩
      have s1 : Same H (upd H a1 (SetT P w a1 (mem x.cps.toList.reverse) (dnum x.cps.toList.reverse))) := fun b o e => by rw [upd_ne (ne_of_none e h1)]; exact e
      have n12 : a1 ≠ a2 := ne_of_none upd_same h2
      refine ⟨a1, a2, _, _, _, _, rfl, rfl, by rw [upd_ne n12]; exact upd_same, upd_same, ?_, ?_, fun p R j hp hj hl => ?_⟩
      · have := dn_le (x := x)
        rw [SG_dn]
        omega
      · have := dn_le (x := x)
        omega
      refine ⟨p, R, j, rfl, upd_same, rfl, ?_⟩
      have s2 : Same H (upd (upd (upd H a1 (SetT P w a1 (mem x.cps.toList.reverse) (dnum x.cps.toList.reverse))) a2 (SetT P w a2 (mem SG.cps.toList.reverse) (dnum SG.cps.toList.reverse))) p (SetT P w p R j)) := fun b o e => by
        have e1 := s1 b o e
        rw [upd_ne (ne_of_none (by rw [upd_ne (ne_of_none e1 h2)]; exact e1) hp), upd_ne (ne_of_none e1 h2)]
        exact e1
      have e : fText (.str x) = decide (V.int ((j : Nat) : Int) = V.int 0) := by
        show allIn SG x = _
        rw [Bool.eq_iff_iff, allIn_iff, ← hj]
        simp
      have kk := k _ s2
      rw [e] at kk
      exact kk
    · cases hv <;> first | exact kk | exact absurd rfl hi
end
end Wq
set_option Elab.async false
set_option linter.all false
set_option maxRecDepth 100000
set_option maxHeartbeats 2000000
namespace Wq
open PySem PySem.Spec PyProof.Rows L2
open SD (mem dnum sg)
theorem lit32 : V.str " " = V.str ⟨#[32]⟩ := congrArg V.str (show (" " : Str) = ⟨#[32]⟩ from by decide +kernel)
theorem lit10 : V.str "\n" = V.str ⟨#[10]⟩ := congrArg V.str (show ("\n" : Str) = ⟨#[10]⟩ from by decide +kernel)
section
variable {P : Program} {w : World} {K : PySem.W.Frag} {mg : Str → Option Value} {base : Heap}
theorem ok_Row (D : DefAt K mg "is_row" sRow) (T : Txt K mg) (CT : Cl P w K mg base 1 "is_text" (spF K fText)) : Cl P w K mg base 2 "is_row" (spF K fRow) := by
  refine cl_of D scRow (fun vs H Q E h => ?_) (fun _ _ _ _ _ _ us hl => match us, hl with | [_], _ => rfl) (fun f cdv A outer s H vs Q E hr h => ?_)
  · obtain ⟨v, d, t, rfl, _⟩ := h
    rfl
  · obtain ⟨v, d, t, rfl, hv, k⟩ := h
    refine ⟨_, pss_one (ps_ret (pe_and (pe_cl CT hr (by decide) rfl (pa_cons (pv 0) pa_nil)) (pe_and (pe_cmpR op_gt (pe_callB call_len (by rfl) (by exact T.len) PySem.boot_len (pa_cons (pv 0) pa_nil)) pe_int (nomark _)) (pe_and (pe_cmpR op_notIn_sign pe_str (pv 0) rfl) (pe_one (pe_cmpR op_notIn_sign pe_str (pv 0) rfl)))))), ?_⟩
    refine ⟨_, rfl, v, d, t, rfl, hv, fun H' s' => ⟨_, rfl, ?_⟩⟩
    have kk := k H' s'
    cases hv <;> try exact kk
    rename_i x hx ha
    have e : ∀ b1 b2 b3, allIn SG x = b1 → decide (0 < x.cps.size) = b2 → (!decide (32 ∈ x.cps.toList)) = b3 → fRow (.str x) = (b1 && (b2 && (b3 && !decide (10 ∈ x.cps.toList)))) := by
      rintro _ _ _ rfl rfl rfl
      rfl
    refine ite2 (fun h1 => ?_) (fun h1 => ?_)
    · refine ⟨_, rfl, _, _, rfl, ⟨szl hx, rfl⟩, _, _, rfl, rfl, _, rfl, ?_⟩
      refine ite2 (fun h2 => ?_) (fun h2 => ?_)
      · refine ⟨_, rfl, 32, x, lit32, rfl, _, rfl, ?_⟩
        have h2 : decide (0 < x.cps.size) = true := by
          have : (0 : Int) < ((x.cps.size : Nat) : Int) := of_decide_eq_true h2
          exact decide_eq_true (by omega)
        refine ite2 (fun h3 => ?_) (fun h3 => ?_)
        · refine ⟨_, rfl, 10, x, lit10, rfl, ?_⟩
          rw [e _ _ _ h1 h2 h3] at kk
          exact kk
        · rw [e _ _ _ h1 h2 (eq_false_of_ne_true h3)] at kk
          exact kk
      · have h2 : decide (0 < x.cps.size) = false := by
          refine decide_eq_false fun z => h2 (decide_eq_true (show (0 : Int) < ((x.cps.size : Nat) : Int) from by omega))
        rw [e _ _ _ h1 h2 rfl] at kk
        exact kk
    · rw [e _ _ _ (eq_false_of_ne_true h1) rfl rfl] at kk
      exact kk
theorem ok_Word (D : DefAt K mg "is_word" sWord) (T : Txt K mg) (TX : TxtX mg) (CR : Cl P w K mg base 2 "is_row" (spF K fRow)) : Cl P w K mg base 3 "is_word" (spF K fWord) := by
  obtain ⟨t1, TX1⟩ := TX.wl
  refine cl_of D scWord (fun vs H Q E h => ?_) (fun _ _ _ _ _ _ us hl => match us, hl with | [_], _ => rfl) (fun f cdv A outer s H vs Q E hr h => ?_)
  · obtain ⟨v, d, t, rfl, _⟩ := h
    rfl
  · obtain ⟨v, d, t, rfl, hv, k⟩ := h
    refine ⟨_, pss_one (ps_ret (pe_and (pe_cl CR hr (by decide) rfl (pa_cons (pv 0) pa_nil)) (pe_one (pe_cmpR op_le (pe_callB call_len (by rfl) (by exact T.len) PySem.boot_len (pa_cons (pv 0) pa_nil)) (pgi (by exact TX1)) (nomark _))))), ?_⟩
    refine ⟨_, rfl, v, d, t, rfl, hv, fun H' s' => ⟨_, rfl, ?_⟩⟩
    have kk := k H' s'
    cases hv <;> try exact kk
    rename_i x hx ha
    have e : ∀ b1, fRow (.str x) = b1 → fWord (.str x) = (b1 && decide (x.cps.size ≤ 40)) := by
      rintro _ rfl
      rfl
    refine ite2 (fun h1 => ?_) (fun h1 => ?_)
    · refine ⟨_, rfl, _, _, rfl, ⟨szl hx, rfl⟩, _, _, rfl, rfl, ?_⟩
      rw [e _ h1] at kk
      have e2 : (true && decide (x.cps.size ≤ 40)) = decide (((x.length : Nat) : Int) ≤ 40) := by
        rw [Bool.true_and]
        exact decide_eq_decide.mpr (show x.cps.size ≤ 40 ↔ ((x.cps.size : Nat) : Int) ≤ 40 by omega)
      rw [e2] at kk
      exact kk
    · rw [e _ (eq_false_of_ne_true h1)] at kk
      exact kk
theorem ok_Name (D : DefAt K mg "is_name" sName) (T : Txt K mg) (TX : TxtX mg) : Cl P w K mg base 1 "is_name" (spF K fName) := by
  obtain ⟨t1, TX1⟩ := TX.sm
  obtain ⟨t2, TX2⟩ := TX.nl
  refine cl_of D scName (fun vs H Q E h => ?_) (fun _ _ _ _ _ _ us hl => match us, hl with | [_], _ => rfl) (fun f cdv A outer s H vs Q E hr h => ?_)
  · obtain ⟨v, d, t, rfl, _⟩ := h
    rfl
  · obtain ⟨v, d, t, rfl, hv, k⟩ := h
    refine ⟨_, pss_cons (ps_if (PW.pt (pw_or (pt_not (pt_val (pe_callB call_isi (by rfl) (by exact TX.isi) (by decide +kernel) (pa_cons (pv 0) (pa_cons (pe_bltn rfl (by exact TX.str) (by decide +kernel) (v := .ty "str") rfl) pa_nil))))) (pw_or1 (pt_not (pt_chain op_le op_le pe_int (pe_callB call_len (by rfl) (by exact T.len) PySem.boot_len (pa_cons (pv 0) pa_nil)) (pgi (by exact TX2)))))))
(pss_one (ps_ret pe_bl))
pss_nil)
(pss_one (ps_ret (pe_cmpR op_eq (pe_callB call_lenT (by rfl) (by exact T.len) PySem.boot_len (pa_cons (pe_op op_subT (pe_callTy (cr_setT rfl) (by rfl) (by exact TX.set) (by decide +kernel) (pa_cons (pv 0) pa_nil)) (pe_callTy (cr_setT rfl) (by rfl) (by exact TX.set) (by decide +kernel) (pa_cons (pgs (by exact TX1)) pa_nil))) pa_nil)) pe_int (nomark _)))), ?_⟩
    refine ⟨_, rfl, v, .ty "str", _, _, _, rfl, .ty "str", hv.ty, hv.kS, _, rfl, ?_⟩
    have kk := k H (.refl H)
    cases hv <;> try (exact kk; done)
    rename_i x hx ha
    refine ⟨_, rfl, _, _, rfl, ⟨szl hx, rfl⟩, _, _, rfl, rfl, _, rfl, ?_⟩
    have e : ∀ b1 b2, decide (1 ≤ x.cps.size) = b1 → decide (x.cps.size ≤ 12) = b2 → fName (.str x) = ((b1 && b2) && allIn SM x) := by
      rintro _ _ rfl rfl
      rfl
    have l1 : decide ((1 : Int) ≤ ((x.length : Nat) : Int)) = decide (1 ≤ x.cps.size) := decide_eq_decide.mpr (show (1 : Int) ≤ ((x.cps.size : Nat) : Int) ↔ 1 ≤ x.cps.size by omega)
    have l2 : decide (((x.length : Nat) : Int) ≤ 12) = decide (x.cps.size ≤ 12) := decide_eq_decide.mpr (show ((x.cps.size : Nat) : Int) ≤ 12 ↔ x.cps.size ≤ 12 by omega)
    have out : decide (1 ≤ x.cps.size) = false ∨ decide (x.cps.size ≤ 12) = false → Q (.bl false) H := by
      rintro (h | h)
      · rw [e _ _ h rfl] at kk
        exact kk
      · rw [e _ _ rfl h, Bool.and_false] at kk
        exact kk
    refine ite2 (fun h1 => ?_) (fun h1 => ?_)
    · refine ⟨_, _, rfl, rfl, _, rfl, ?_⟩
      refine ite2 (fun h2 => ?_) (fun h2 => ?_)
      · refine out (.inr ?_)
        rw [← l2]
        simpa using h2
      · refine ⟨_, rfl, x, rfl, by omega, fun a1 g1 => ⟨SM, rfl, by rw [SM_sz]; decide, fun a2 g2 => ?_⟩⟩
        have s1 : Same H (upd H a1 (SetT P w a1 (mem x.cps.toList.reverse) (dnum x.cps.toList.reverse))) := fun b o e => by rw [upd_ne (ne_of_none e g1)]; exact e
        have n12 : a1 ≠ a2 := ne_of_none upd_same g2
        refine ⟨a1, a2, _, _, _, _, rfl, rfl, by rw [upd_ne n12]; exact upd_same, upd_same, ?_, ?_, fun p R j hp hj hl => ?_⟩
        · have := dn_le (x := x)
          rw [SM_dn]
          omega
        · have := dn_le (x := x)
          omega
        refine ⟨p, R, j, rfl, upd_same, rfl, ?_⟩
        have s2 : Same H (upd (upd (upd H a1 (SetT P w a1 (mem x.cps.toList.reverse) (dnum x.cps.toList.reverse))) a2 (SetT P w a2 (mem SM.cps.toList.reverse) (dnum SM.cps.toList.reverse))) p (SetT P w p R j)) := fun b o e => by
          have e1 := s1 b o e
          rw [upd_ne (ne_of_none (by rw [upd_ne (ne_of_none e1 g2)]; exact e1) hp), upd_ne (ne_of_none e1 g2)]
          exact e1
        have e3 : fName (.str x) = decide (V.int ((j : Nat) : Int) = V.int 0) := by
          rw [e true true (by rw [← l1]; exact h1) (by rw [← l2]; simpa using h2)]
          show (true && allIn SM x) = _
          rw [Bool.true_and, Bool.eq_iff_iff, allIn_iff, ← hj]
          simp
        have kk := k _ s2
        rw [e3] at kk
        exact kk
    · refine ⟨_, rfl, ?_⟩
      refine iteT ?_
      exact out (.inl (by rw [← l1]; exact eq_false_of_ne_true h1))
/-- lines of a text -/
def spLines : Sp := fun vs H Q _ => ∃ x : Str, vs = [.str x] ∧ x.cps.size ≤ 100 ∧ (Txt.split x "\n").length ≤ 200 ∧ ∀ p H', H p = none → Same H H' → H' p = some (.tup ((Txt.split x "\n").map V.str)) → Q (.ref p) H'
theorem ok_Lines (D : DefAt K mg "lines_of" sLines) (T : Txt K mg) : Cl P w K mg base 1 "lines_of" spLines := by
  refine cl_of D scLines (fun vs H Q E h => ?_) (fun _ _ _ _ _ _ us hl => match us, hl with | [_], _ => rfl) (fun f cdv A outer s H vs Q E hr h => ?_)
  · obtain ⟨x, rfl, _⟩ := h
    rfl
  · obtain ⟨x, rfl, hx, hl, k⟩ := h
    refine ⟨_, pss_one (ps_ret (pe_callTy call_tuple_of (by rfl) (by exact T.tuple) (by decide +kernel) (pa_cons (pe_split (pv 0) pe_str) pa_nil))), ?_⟩
    refine ⟨_, rfl, ⟨x, rfl⟩, x, _, rfl, rfl, by decide +kernel, by show x.cps.size + 2 ≤ 16777216; omega, fun p hp => ?_⟩
    refine ⟨p, _, rfl, .inl ⟨.inl (.inl upd_same), fun l hl => ?_⟩⟩
    have npl : p ≠ l := ne_of_none upd_same hl
    have s1 : ∀ o u, Same H (upd (upd H p o) l u) := fun o u b z e => by
      have hb := ne_of_none e hp
      rw [upd_ne (ne_of_none (by rw [upd_ne hb]; exact e) hl), upd_ne hb]
      exact e
    exact k l _ (by rw [upd_ne npl.symm] at hl; exact hl) (s1 _ _) upd_same
end
end Wq
set_option Elab.async false
set_option linter.all false
set_option maxRecDepth 100000
set_option maxHeartbeats 4000000
namespace Wq
open PySem PySem.Spec PyProof.Rows L2
open SD (mem dnum sg)
abbrev nI (n : Nat) : V := .int (n : Int)
theorem fold_rep (c n : Nat) (a : Array Nat) : (List.replicate n #[c]).foldl (· ++ ·) a = a ++ (List.replicate n c).toArray := by
  induction n generalizing a with
  | zero => simp
  | succ n ih =>
    rw [List.replicate_succ, List.foldl_cons, ih, List.replicate_succ]
    apply Array.ext'
    simp
theorem op_rep1 {X : Cx} : OpR X (binaryOp .Mult) (fun x y H Q => ∃ (c n : Nat), x = .str ⟨#[c]⟩ ∧ y = nI n ∧ n ≤ 1000 ∧ Q (.str ⟨(List.replicate n c).toArray⟩) H) := by
  intro pins s σ H x y v u Q I rx ry h
  obtain ⟨c, n, rfl, rfl, hn, q⟩ := h
  obtain ⟨t, rfl⟩ := rx
  obtain ⟨t', rfl⟩ := ry
  have h1000 : 1000 ≤ sizeLine := by rw [sizeLine_eq]; decide
  refine PySem.P.mul_str ?_ (fun h1 _ => ?_) (fun _ _ => ?_) ?_
  · rw [decide_eq_false (by omega), decide_eq_false (by omega)]; rfl
  · show ¬ (((1 : Nat) : Int) > (2 ^ 63 - 1) / (n : Int))
    have h2 : 1 ≤ ((2 : Int) ^ 63 - 1) / (n : Int) := by
      rw [Int.le_ediv_iff_mul_le (by omega)]
      omega
    omega
  · have e : (⟨#[c]⟩ : Str).length * (n : Int).toNat = n := by
      show 1 * (n : Int).toNat = n
      omega
    rw [e]
    exact decide_eq_false (by omega)
  · by_cases h0 : (n : Int) < 1
    · rw [if_pos h0]
      have e : n = 0 := by omega
      subst e
      exact ⟨by decide, ⟨.str Str.empty, H, I.tok _, ⟨_, rfl⟩, q⟩⟩
    · rw [if_neg h0]
      by_cases h1 : n = 1
      · subst h1
        rw [if_pos (show ((((1 : Nat) : Int) == 1) || (⟨#[c]⟩ : Str).length == 0) = true from rfl)]
        exact ⟨.str ⟨#[c]⟩, H, I, ⟨_, rfl⟩, q⟩
      · have hb : ((n : Int) == 1 || (⟨#[c]⟩ : Str).length == 0) = false := by
          have h2 : ((n : Int) == 1) = false := by
            rw [beq_eq_false_iff_ne]
            omega
          rw [h2]; rfl
        rw [hb, if_neg (by decide)]
        have e : (⟨(List.replicate (n : Int).toNat (⟨#[c]⟩ : Str).cps).foldl (· ++ ·) #[]⟩ : Str) = ⟨(List.replicate n c).toArray⟩ := by
          rw [Int.toNat_natCast]
          show (⟨(List.replicate n #[c]).foldl (· ++ ·) #[]⟩ : Str) = _
          rw [fold_rep]
          simp
        rw [e]
        refine ⟨?_, ⟨.str ⟨(List.replicate n c).toArray⟩, H, I.tok _, ⟨_, rfl⟩, q⟩⟩
        show (List.replicate n c).toArray.size ≤ sizeLine
        rw [List.size_toArray, List.length_replicate]
        omega
abbrev sOwn : Stmt := top 46
abbrev sOddV : Stmt := top 47
abbrev sTold : Stmt := top 48
theorem scOwn : FnScope ["_law_small"] [] (defScope sOwn) := ⟨rfl, rfl, rfl, by decide +kernel, rfl, by decide +kernel, by decide +kernel⟩
theorem scOddV : FnScope ["_law_pen_here", "_law_rows"] ["_law_pen_here"] (defScope sOddV) := ⟨rfl, rfl, rfl, by decide +kernel, rfl, by decide +kernel, by decide +kernel⟩
/-- all but the pen stays -/
def SameP (p : Addr) (H H' : Hp) : Prop := ∀ b o, H b = some o → b ≠ p → H' b = some o
theorem SameP.refl {p : Addr} {H : Hp} : SameP p H H := fun _ _ e _ => e
theorem SameP.trans {p : Addr} {H H1 H2 : Hp} (a : SameP p H H1) (b : SameP p H1 H2) : SameP p H H2 := fun x o e n => b x o (a x o e n) n
theorem SameP.of {p : Addr} {H H' : Hp} (s : Same H H') : SameP p H H' := fun b o e _ => s b o e
theorem SameP.upd {p : Addr} {H : Hp} {o : HO} : SameP p H (L2.upd H p o) := fun b u e n => by rw [upd_ne n]; exact e
theorem SameP.new {p q : Addr} {H : Hp} {o : HO} (h : H q = none) : SameP p H (L2.upd H q o) := fun b u e n => by rw [upd_ne (ne_of_none e h)]; exact e
def spOddV (K : PySem.W.Frag) : Sp := fun vs H Q _ => ∃ (p c : Addr) (m : Nat), vs = [.ref p] ∧ PenAt H p c m ∧ m < 1000000 ∧ ∀ (v : V) (d : PyData) (t : String) (H' : Hp), SameP p H H' → PenAt H' p c (m + 3) → OV K H' v d t → Q v H'
theorem lit97 : V.str "a" = V.str ⟨#[97]⟩ := congrArg V.str (show ("a" : Str) = ⟨#[97]⟩ from by decide +kernel)
theorem lit35 : V.str "#" = V.str ⟨#[35]⟩ := congrArg V.str (show ("#" : Str) = ⟨#[35]⟩ from by decide +kernel)
section
variable {P : Program} {w : World} {K : PySem.W.Frag} {mg : Str → Option Value} {base : Heap}
theorem ok_Own (D : DefAt K mg "_law_own_signs" sOwn) : Cl P w K mg base 1 "_law_own_signs" (fun vs H Q _ => vs = [] ∧ Q (.str SG) H) := by
  refine cl_of D scOwn (fun vs H Q E h => ?_) (fun _ _ _ _ _ _ us hl => match us, hl with | [], _ => rfl) (fun f cdv A outer s H vs Q E hr h => ?_)
  · obtain ⟨rfl, _⟩ := h
    rfl
  · obtain ⟨rfl, k⟩ := h
    refine ⟨_, pss_cons (ps_set (i := 0) scOwn.nd rfl (Or.inl rfl) pe_str)
(pss_one (ps_ret (pe_op op_add_str (pe_op op_add_str (pe_op op_add_str (pe_op op_add_str pe_str (pe_upper (pv 0))) pe_str) (pv 0)) pe_str))), ?_⟩
    refine ⟨_, rfl, ⟨_, rfl⟩, _, rfl, rfl, by decide +kernel, _, _, rfl, rfl, by decide +kernel, _, _, rfl, rfl, by decide +kernel, _, rfl, _, _, rfl, rfl, by decide +kernel, _, _, rfl, rfl, by decide +kernel, ?_⟩
    exact (congrArg (fun z => Q (V.str z) H) (show _ = SG by decide +kernel)).mpr k
theorem ok_OddV (D : DefAt K mg "_law_odd_value" sOddV) (CD : Cl P w K mg base 1 "_law_draw" (spDraw K)) (CP : Cl P w K mg base 2 "_law_pick" (spPick K)) : Cl P w K mg base 3 "_law_odd_value" (spOddV K) := by
  refine cl_of D scOddV (fun vs H Q E h => ?_) (fun _ _ _ _ _ _ us hl => match us, hl with | [_], _ => rfl) (fun f cdv A outer s H vs Q E hr h => ?_)
  · obtain ⟨p, c, m, rfl, _⟩ := h
    rfl
  · obtain ⟨p, c, m, rfl, HP, hm, k⟩ := h
    refine ⟨_, pss_cons (ps_set (i := 1) scOddV.nd rfl (Or.inl rfl) (pe_lst (pa_cons pe_non (pa_cons pe_bl (pa_cons pe_int (pa_cons (pe_un un_neg pe_int) (pa_cons pe_str (pa_cons pe_str (pa_cons pe_str (pa_cons pe_str (pa_cons pe_str (pa_cons pe_str (pa_cons pe_str (pa_cons pe_str (pa_cons (pe_lstN (pa_cons pe_str pa_nil)) (pa_cons (pe_tup (pa_cons pe_str pa_nil)) (pa_cons pe_dnewK pa_nil)))))))))))))))))
(pss_one (ps_ret (pe_cl CP hr (by decide) rfl (pa_cons (pv 0) (pa_cons (pe_op op_cat (pv 1) (pe_lst (pa_cons (pe_op op_rep1 pe_str (pe_op op_add pe_int (pe_cl CD hr (by decide) rfl (pa_cons (pv 0) (pa_cons pe_int pa_nil))))) (pa_cons (pe_op op_rep1 pe_str (pe_op op_add pe_int (pe_cl CD hr (by decide) rfl (pa_cons (pv 0) (pa_cons pe_int pa_nil))))) (pa_cons pe_str pa_nil))))) pa_nil))))), ?_⟩
    refine ⟨_, rfl, by show 1 ≤ sizeLine; decide, fun q1 h1 n1 => ⟨by show 1 ≤ sizeLine; decide, fun q2 h2 q3 h3 => ⟨by show 15 ≤ sizeLine; decide, fun q4 h4 => ?_⟩⟩⟩
    refine ⟨_, rfl, _, rfl, ?_⟩
    have N1 : Same H (upd H q1 (.lst [V.str "a"])) := fun b o e => by rw [upd_ne (ne_of_none e h1)]; exact e
    have N2 : Same _ (upd (upd H q1 (.lst [V.str "a"])) q2 (.tup [V.str "a"])) := fun b o (e : upd H q1 (.lst [V.str "a"]) b = some o) => by rw [upd_ne (ne_of_none e h2)]; exact e
    have N3 : Same _ (upd (upd (upd H q1 (.lst [V.str "a"])) q2 (.tup [V.str "a"])) q3 (.dK [])) := fun b o (e : upd (upd H q1 (.lst [V.str "a"])) q2 (.tup [V.str "a"]) b = some o) => by rw [upd_ne (ne_of_none e h3)]; exact e
    have E1 := N3 _ _ (N2 _ _ (upd_same (H := H) (a := q1) (o := .lst [V.str "a"])))
    have E2 := N3 _ _ (upd_same (H := upd H q1 (.lst [V.str "a"])) (a := q2) (o := .tup [V.str "a"]))
    have E3 : upd (upd (upd H q1 (.lst [V.str "a"])) q2 (.tup [V.str "a"])) q3 (.dK []) q3 = some (.dK []) := upd_same
    generalize hG : upd (upd (upd H q1 (.lst [V.str "a"])) q2 (.tup [V.str "a"])) q3 (.dK []) = G at *
    have S3 : Same H G := N1.trans (N2.trans N3)
    generalize hR : ([V.non, V.bl true, V.int 5, V.int (-3), V.str "", V.str "a", V.str "\n", V.str "\t", V.str "ab", V.str "a b", V.str "aB", V.str "a\tb", V.ref q1, V.ref q2, V.ref q3] : List V) = rows at *
    have S4 : Same G (upd G q4 (.lst rows)) := fun b o e => by rw [upd_ne (ne_of_none e h4)]; exact e
    have HP4 := (HP.same S3).same S4
    refine ⟨_, rfl, p, c, m, _, rfl, HP4, by omega, by decide, by decide, fun v1 o1 v10 v11 HP5 => ?_⟩
    refine ⟨_, _, rfl, rfl, 97, (10 + v1).toNat, lit97, congrArg V.int (by omega), by omega, ?_⟩
    refine ⟨_, rfl, p, c, m + 1, _, rfl, HP5, by omega, by decide, by decide, fun v2 o2 v20 v21 HP6 => ?_⟩
    refine ⟨_, _, rfl, rfl, 35, (39 + v2).toNat, lit35, congrArg V.int (by omega), by omega, ?_⟩
    refine ⟨by show 3 ≤ sizeLine; decide, fun q5 h5 => ?_⟩
    have l4 := HP5.lst (o := o2) (HP4.lst (o := o1) (upd_same (H := G) (a := q4) (o := .lst rows)))
    refine ⟨q4, q5, _, _, rfl, rfl, by rw [upd_ne (ne_of_none l4 h5)]; exact l4, upd_same, by rw [← hR]; show 15 + 3 ≤ sizeLine; decide, fun q6 h6 => ?_⟩
    generalize hL : ([V.str ⟨(List.replicate (10 + v1).toNat 97).toArray⟩, V.str ⟨(List.replicate (39 + v2).toNat 35).toArray⟩, V.str "a\nb"] : List V) = L3 at *
    generalize hF : upd (upd G q4 (.lst rows)) p o1 = F at *
    have S5 : SameP p G F := by rw [← hF]; exact (SameP.of S4).trans SameP.upd
    have N5 : Same (upd F p o2) (upd (upd F p o2) q5 (.lst L3)) := fun b o e => by rw [upd_ne (ne_of_none e h5)]; exact e
    have N6 : Same _ (upd (upd (upd F p o2) q5 (.lst L3)) q6 (.lst (rows ++ L3))) := fun b o (e : upd (upd F p o2) q5 (.lst L3) b = some o) => by rw [upd_ne (ne_of_none e h6)]; exact e
    have HP8 := (HP6.same N5).same N6
    have S6 : SameP p G (upd (upd (upd F p o2) q5 (.lst L3)) q6 (.lst (rows ++ L3))) := S5.trans (SameP.upd.trans (SameP.of (N5.trans N6)))
    have l6 : upd (upd (upd F p o2) q5 (.lst L3)) q6 (.lst (rows ++ L3)) q6 = some (.lst (rows ++ L3)) := upd_same
    generalize hZ : upd (upd (upd F p o2) q5 (.lst L3)) q6 (.lst (rows ++ L3)) = Z at *
    have lr : rows.length = 15 := by rw [← hR]; rfl
    have ll : L3.length = 3 := by rw [← hL]; rfl
    refine ⟨p, c, m + 2, .ref q6, rows ++ L3, rfl, HP8, .lst (.inl (.inl l6)), by omega, by rw [List.length_append]; omega, by rw [List.length_append]; omega, fun i v o hv HP9 => ?_⟩
    obtain ⟨ns, pi, pd, pf, pn, hp0, _⟩ := HP.ex
    have hpG := S3 _ _ hp0
    have ne1 : q1 ≠ p := ne_of E1 hpG (fun z => nomatch z)
    have ne2 : q2 ≠ p := ne_of E2 hpG (fun z => nomatch z)
    have ne3 : q3 ≠ p := ne_of E3 hpG (fun z => nomatch z)
    have S7 : SameP p G (upd Z p o) := S6.trans SameP.upd
    have F1 := S7 _ _ E1 ne1
    have F2 := S7 _ _ E2 ne2
    have F3 := S7 _ _ E3 ne3
    have fin : ∀ (v : V) (d : PyData) (t : String), OV K (upd Z p o) v d t → Q v (upd Z p o) := fun v d t hO => k v d t _ ((SameP.of S3).trans S7) HP9 hO
    have hm2 := List.mem_of_getElem? hv
    rw [← hR, ← hL] at hm2
    simp only [List.cons_append, List.nil_append, List.mem_cons, List.not_mem_nil, or_false] at hm2
    rcases hm2 with rfl | rfl | rfl | rfl | rfl | rfl | rfl | rfl | rfl | rfl | rfl | rfl | rfl | rfl | rfl | rfl | rfl | rfl
    · exact fin _ _ _ .non
    · exact fin _ _ _ (.bl true)
    · exact fin _ _ _ (.int 5 (by decide))
    · exact fin _ _ _ (.int (-3) (by decide))
    · exact fin _ _ _ (.str _ (by decide +kernel) (by decide +kernel))
    · exact fin _ _ _ (.str _ (by decide +kernel) (by decide +kernel))
    · exact fin _ _ _ (.str _ (by decide +kernel) (by decide +kernel))
    · exact fin _ _ _ (.str _ (by decide +kernel) (by decide +kernel))
    · exact fin _ _ _ (.str _ (by decide +kernel) (by decide +kernel))
    · exact fin _ _ _ (.str _ (by decide +kernel) (by decide +kernel))
    · exact fin _ _ _ (.str _ (by decide +kernel) (by decide +kernel))
    · exact fin _ _ _ (.str _ (by decide +kernel) (by decide +kernel))
    · exact fin _ _ _ (.lst F1 n1 (by decide +kernel) (by decide +kernel))
    · exact fin _ _ _ (.tup F2 (by decide +kernel) (by decide +kernel))
    · exact fin _ _ _ (.emp F3)
    · exact fin _ _ _ (.str _ (by rw [List.size_toArray, List.length_replicate]; omega) (fun c hc => by rw [List.mem_replicate.mp hc |>.2]; decide))
    · exact fin _ _ _ (.str _ (by rw [List.size_toArray, List.length_replicate]; omega) (fun c hc => by rw [List.mem_replicate.mp hc |>.2]; decide))
    · exact fin _ _ _ (.str _ (by decide +kernel) (by decide +kernel))
end
end Wq
set_option Elab.async false
set_option linter.all false
set_option maxRecDepth 100000
set_option maxHeartbeats 4000000
namespace Wq
open PySem PySem.Spec PyProof.Rows L2
open SD (mem dnum sg)
theorem hu64 {A : Around} {k : Nat} (hr : Room k A) : A.units + 64 < cLine := by
  have := hr.un
  omega
abbrev NTold : List Str := ["_law_value", "_law_is_string", "_law_signs", "_law_known", "_law_word", "_law_small", "_law_due", "_law_sign"]
theorem scTold : FnScope NTold ["_law_value"] (defScope sTold) := ⟨rfl, rfl, rfl, by decide +kernel, rfl, by decide +kernel, by decide +kernel⟩
def fSm : PyData → Bool
  | .str x => allIn SM x
  | _ => false
def spTold (K : PySem.W.Frag) : Sp := fun vs H Q _ => ∃ (v : V) (d : PyData) (t : String), vs = [v] ∧ OV K H v d t ∧ ∀ H', Same H H' → Q (.bl true) H'
structure ClT (P : Program) (w : World) (K : PySem.W.Frag) (mg : Str → Option Value) (base : Heap) : Prop where
  sign : Cl P w K mg base 1 "is_sign" (spF K fSign)
  text : Cl P w K mg base 1 "is_text" (spF K fText)
  word : Cl P w K mg base 3 "is_word" (spF K fWord)
  name : Cl P w K mg base 1 "is_name" (spF K fName)
  int : Cl P w K mg base 1 "is_integer" (spF K fInt)
  own : Cl P w K mg base 1 "_law_own_signs" (fun vs H Q _ => vs = [] ∧ Q (.str SG) H)
theorem sNew {H : Hp} {q : Addr} {o : HO} (h : H q = none) : Same H (upd H q o) := fun b u e => by rw [upd_ne (ne_of_none e h)]; exact e
theorem sPut {H G : Hp} {q : Addr} {o : HO} (s : Same H G) (h : H q = none) : Same H (upd G q o) := fun b u e => by rw [upd_ne (ne_of_none e h)]; exact s b u e
theorem shaped_strs (l : List Str) (ho : ∀ x ∈ l, PyData.strOk x = true) : SeqAt.shaped (.list (l.map PyData.str)) = true := by
  have h1 : ∀ l : List Str, (∀ x ∈ l, PyData.strOk x = true) → PyData.canLayAll0 (l.map PyData.str) = true := by
    intro l
    induction l with
    | nil => intro _; rfl
    | cons x l ih =>
      intro h
      show (PyData.canLay0 (.str x) && PyData.canLayAll0 (l.map PyData.str)) = true
      rw [ih fun y hy => h y (List.mem_cons_of_mem _ hy)]
      simpa [PyData.canLay0] using h x List.mem_cons_self
  have h2 : ∀ l : List Str, PyData.depthAll (l.map PyData.str) = 0 := by
    intro l
    induction l with
    | nil => rfl
    | cons x l ih =>
      show max (PyData.depth (.str x)) (PyData.depthAll (l.map PyData.str)) = 0
      rw [ih]
      rfl
  show (PyData.canLayAll0 (l.map PyData.str) && decide (PyData.depthAll (l.map PyData.str) + 1 ≤ 64)) = true
  rw [h1 l ho, h2]
  rfl
/-- the signs of x that are not in z -/
def outs (z x : Str) : List Str := (x.cps.toList.filter fun c => !decide (c ∈ z.cps.toList)).map SD.sg
theorem outs_nil {z x : Str} : decide (outs z x = []) = allIn z x := by
  rw [Bool.eq_iff_iff, decide_eq_true_iff]
  unfold outs allIn
  rw [List.map_eq_nil_iff, List.filter_eq_nil_iff, List.all_eq_true]
  constructor
  · intro h c hc
    have := h c hc
    cases e : decide (c ∈ z.cps.toList)
    · rw [e] at this
      exact absurd rfl this
    · rfl
  · intro h c hc
    rw [h c hc]
    decide
theorem outs_ok {z x : Str} (h : ∀ c ∈ x.cps.toList, c < 128) : ∀ y ∈ outs z x, PyData.strOk y = true := by
  intro y hy
  unfold outs at hy
  obtain ⟨c, hc, rfl⟩ := List.mem_map.mp hy
  have hc := h c (List.mem_filter.mp hc).1
  show (#[c] : Array Nat).all (· < 0x110000) = true
  simp
  omega
def outsJ (z x : Str) (j : Nat) : List Str := ((x.cps.toList.take j).filter fun c => !decide (c ∈ z.cps.toList)).map SD.sg
theorem outsJ_all {z x : Str} : outsJ z x x.cps.size = outs z x := by
  unfold outsJ outs
  rw [List.take_of_length_le (by simp)]
theorem outsJ_len (z x : Str) (j : Nat) : (outsJ z x j).length ≤ j := by
  unfold outsJ
  rw [List.length_map]
  exact Nat.le_trans (List.length_filter_le _ _) (by rw [List.length_take]; omega)
theorem outsJ_next {z x : Str} {j c : Nat} (h : x.cps[j]? = some c) : outsJ z x (j + 1) = outsJ z x j ++ ([c].filter fun c => !decide (c ∈ z.cps.toList)).map SD.sg := by
  unfold outsJ
  have h' : x.cps.toList[j]? = some c := by rw [Array.getElem?_toList]; exact h
  rw [List.take_add_one, h', Option.toList_some, List.filter_append, List.map_append]
theorem outsJ_in {z x : Str} {j c : Nat} (h : x.cps[j]? = some c) (hb : (!decide (c ∈ z.cps.toList)) = true) : outsJ z x (j + 1) = outsJ z x j ++ [SD.sg c] := by
  rw [outsJ_next h, List.filter_cons, if_pos hb]
  rfl
theorem outsJ_out {z x : Str} {j c : Nat} (h : x.cps[j]? = some c) (hb : ¬ (!decide (c ∈ z.cps.toList)) = true) : outsJ z x (j + 1) = outsJ z x j := by
  rw [outsJ_next h, List.filter_cons, if_neg hb]
  simp
/-- a list of texts beside [] -/
theorem eq_nil {ds : List Str} : PyData.eqv (.list (ds.map PyData.str)) (.list []) = decide (ds = []) := by
  cases ds with
  | nil => rfl
  | cons x l => rfl
section
variable {X : Cx} {k j : Nat} {x : Str} {sp : Sp} {p pos : Pos}
theorem pe_cl0 (c : Cl X.prog X.w X.K X.mg X.base k x sp) (hr : Room j X.A) (hk : k ≤ j) (hg : Gl X x) (hdb : (x == ("__debug__" : Str)) = false := by decide) : PE X (.Call (.Name x p) [] [] pos) (tCall sp [] E0 tNil) := by
  obtain ⟨f, fd, ps, F, hm, kp, b⟩ := c.ex
  exact pe_call0 F (hr.mono hk) hg hm kp b .nil pass0 hdb
end
theorem eqv_bools (a b c d e : Bool) : PyData.eqv (.list [.bool a, .bool b, .bool c, .bool d, .bool e]) (.list [.bool a, .bool b, .bool c, .bool d, .bool e]) = true := by
  cases a <;> cases b <;> cases c <;> cases d <;> cases e <;> rfl
section
variable {X : Cx} {e : Expr} {t t' : TE}
theorem pe_imp (h : PE X e t) (i : ∀ σ H Q, t' σ H Q → t σ H Q) : PE X e t' := ⟨fun pins s σ H Q I q => h.run pins s σ H Q I (i σ H Q q)⟩
end
theorem word_eq {x : Str} {b1 b2 b3 b4 : Bool} (h1 : allIn SG x = b1) (h2 : decide (1 ≤ x.cps.size) = b2) (h3 : decide (x.cps.size ≤ 40) = b3) (h4 : (!decide (32 ∈ x.cps.toList)) = b4) : fWord (.str x) = (b1 && ((b2 && b3) && (b4 && !decide (10 ∈ x.cps.toList)))) := by
  subst h1 h2 h3 h4
  show ((allIn SG x && (decide (0 < x.cps.size) && (!decide (32 ∈ x.cps.toList) && !decide (10 ∈ x.cps.toList)))) && decide (x.cps.size ≤ 40)) = _
  rw [show decide (0 < x.cps.size) = decide (1 ≤ x.cps.size) from rfl]
  cases allIn SG x <;> cases decide (1 ≤ x.cps.size) <;> cases decide (x.cps.size ≤ 40) <;> cases decide (32 ∈ x.cps.toList) <;> cases decide (10 ∈ x.cps.toList) <;> rfl
theorem lenI {x : Str} (n : Nat) : decide (((n : Nat) : Int) ≤ ((x.length : Nat) : Int)) = decide (n ≤ x.cps.size) := decide_eq_decide.mpr (show ((n : Nat) : Int) ≤ ((x.cps.size : Nat) : Int) ↔ n ≤ x.cps.size by omega)
theorem lenJ {x : Str} (n : Nat) : decide (((x.length : Nat) : Int) ≤ ((n : Nat) : Int)) = decide (x.cps.size ≤ n) := decide_eq_decide.mpr (show ((x.cps.size : Nat) : Int) ≤ ((n : Nat) : Int) ↔ x.cps.size ≤ n by omega)
section
variable {P : Program} {w : World} {K : PySem.W.Frag} {mg : Str → Option Value} {base : Heap}
theorem dp_strs {H : Hp} {a : Addr} {l : List Str} (h : H a = some (.lst (l.map V.str))) : Dp K H (.ref a) (.list (l.map PyData.str)) := by
  refine .lst (.inl (.inl h)) ?_
  clear h
  induction l with
  | nil => exact .nil
  | cons x l ih => exact .cons (.str x) ih
theorem ok_Told (D : DefAt K mg "_law_are_told" sTold) (T : Txt K mg) (TX : TxtX mg) (C : ClT P w K mg base) : Cl P w K mg base 4 "_law_are_told" (spTold K) := by
  refine cl_of D scTold (fun vs H Q E h => ?_) (fun _ _ _ _ _ _ us hl => match us, hl with | [_], _ => rfl) (fun f cdv A outer s H vs Q E hr h => ?_)
  · obtain ⟨v, d, t, rfl, _⟩ := h
    rfl
  · obtain ⟨v, d, t, rfl, hv, k⟩ := h
    have hstr : isS d = true → ∃ x, d = .str x ∧ v = .str x ∧ x.cps.size ≤ 60 ∧ ∀ c ∈ x.cps.toList, c < 128 := fun h => by
      cases hv <;> try (cases h; done)
      exact ⟨_, rfl, rfl, by assumption, by assumption⟩
    refine ⟨_, C8.pss_cut (ps_asg (pe_tup (pa_cons (pe_callB call_isi (by rfl) (by exact TX.isi) (by decide +kernel) (pa_cons (pv 0) (pa_cons (pe_bltn rfl (by exact TX.str) (by decide +kernel) (v := .ty "str") rfl) pa_nil))) (pa_cons (pe_cl0 C.own hr (by decide) rfl) pa_nil))) (pg_tup (by rfl) (pgs_cons (pg_name (i := 1) scTold.nd rfl (Or.inl rfl)) (pgs_cons (pg_name (i := 2) scTold.nd rfl (Or.inr rfl)) pgs_nil))))
(C8.pss_cut (ps_set (i := 3) scTold.nd rfl (Or.inl rfl) (pe_and (pv 1) (pe_one (pe_cmpR (op_eqD (hu64 hr)) (pe_lc (own := [("_law_sign", 7)]) (g := gName 7) (by rfl) scTold.nd (pi_str (pv 0)) (blkOk_by (own := [("_law_sign", 7)]) (N := NTold) (sc := defScope sTold) (by decide +kernel)) (fun _ _ _ _ _ => (pg_name (i := 7) scTold.nd rfl (Or.inl rfl))) (fun _ _ _ _ _ => (pts_one (pt_cmpR op_notIn_sign (pv 7) (pv 2) rfl))) (fun _ _ _ _ _ => (pv 7))) (pe_lst pa_nil) (nomark _)))))
(C8.pss_cut (ps_set (i := 4) scTold.nd rfl (Or.inl rfl) (pe_and (pv 3) (pe_and (pe_chain op_le op_le pe_int (pe_callB call_len (by rfl) (by exact T.len) PySem.boot_len (pa_cons (pv 0) pa_nil)) pe_int) (pe_and (pe_cmpR op_notIn_sign pe_str (pv 0) rfl) (pe_one (pe_cmpR op_notIn_sign pe_str (pv 0) rfl))))))
(C8.pss_cut (ps_set (i := 5) scTold.nd rfl (Or.inl rfl) (pe_and (pv 1) (pe_one (pe_cmpR (op_eqD (hu64 hr)) (pe_lc (own := [("_law_sign", 7)]) (g := gName 7) (by rfl) scTold.nd (pi_str (pv 0)) (blkOk_by (own := [("_law_sign", 7)]) (N := NTold) (sc := defScope sTold) (by decide +kernel)) (fun _ _ _ _ _ => (pg_name (i := 7) scTold.nd rfl (Or.inl rfl))) (fun _ _ _ _ _ => (pts_one (pt_cmpR op_notIn_sign (pv 7) pe_str rfl))) (fun _ _ _ _ _ => (pv 7))) (pe_lst pa_nil) (nomark _)))))
(C8.pss_cut (ps_set (i := 6) scTold.nd rfl (Or.inl rfl) (pe_lst (pa_cons (pe_imp (t' := fun σ G Q => σ = [some v, some (.bl (isS d)), some (.str SG), some (.bl (fText d)), some (.bl (fWord d)), some (.bl (fSm d)), none, none] ∧ Q (.bl (fSign d)) G) (pe_and (pv 3) (pe_one (pe_cmpR op_eq (pe_callB call_len (by rfl) (by exact T.len) PySem.boot_len (pa_cons (pv 0) pa_nil)) pe_int (nomark _)))) (by
      rintro _ G Q1 ⟨rfl, q⟩
      refine ⟨_, rfl, _, rfl, ?_⟩
      refine ite2 (fun hs => ?_) (fun hs => ?_)
      · obtain ⟨x, rfl, rfl, hx, hx2⟩ := hstr (by cases hv <;> first | rfl | (cases hs; done))
        refine ⟨_, rfl, _, _, rfl, ⟨szl hx, rfl⟩, rfl, ?_⟩
        have h1 : allIn SG x = true := hs
        have e : fSign (.str x) = decide (V.int ((x.length : Nat) : Int) = V.int 1) := by
          show (decide (x.cps.size = 1) && allIn SG x) = _
          rw [h1, Bool.and_true]
          exact decide_eq_decide.mpr ⟨fun z => congrArg V.int (show ((x.cps.size : Nat) : Int) = 1 by omega), fun z => by
            have := V.int.inj z
            have : ((x.cps.size : Nat) : Int) = 1 := this
            omega⟩
        rw [e] at q
        exact q
      · have e : fSign d = false := by
          cases hv <;> try rfl
          rename_i x _ _
          show (decide (x.cps.size = 1) && allIn SG x) = false
          rw [show allIn SG x = false from eq_false_of_ne_true hs, Bool.and_false]
        rw [e] at q
        exact q)) (pa_cons (pv 3) (pa_cons (pv 4) (pa_cons (pe_imp (t' := fun σ G Q => σ = [some v, some (.bl (isS d)), some (.str SG), some (.bl (fText d)), some (.bl (fWord d)), some (.bl (fSm d)), none, none] ∧ Q (.bl (fName d)) G) (pe_and (pv 5) (pe_one (pe_chain op_le op_le pe_int (pe_callB call_len (by rfl) (by exact T.len) PySem.boot_len (pa_cons (pv 0) pa_nil)) pe_int))) (by
      rintro _ G Q1 ⟨rfl, q⟩
      refine ⟨_, rfl, _, rfl, ?_⟩
      refine ite2 (fun hs => ?_) (fun hs => ?_)
      · obtain ⟨x, rfl, rfl, hx, hx2⟩ := hstr (by cases hv <;> first | rfl | (cases hs; done))
        have h1 : allIn SM x = true := hs
        refine ⟨_, rfl, _, _, rfl, ⟨szl hx, rfl⟩, _, _, rfl, rfl, _, rfl, ?_⟩
        refine ite2 (fun h2 => ?_) (fun h2 => ?_)
        · have h2 : decide (1 ≤ x.cps.size) = true := by rw [← lenI]; exact h2
          refine ⟨_, _, rfl, rfl, ?_⟩
          have e : fName (.str x) = decide (((x.length : Nat) : Int) ≤ ((12 : Nat) : Int)) := by
            show ((decide (1 ≤ x.cps.size) && decide (x.cps.size ≤ 12)) && allIn SM x) = _
            rw [h1, h2, lenJ, Bool.true_and, Bool.and_true]
          rw [e] at q
          exact q
        · have h2 : decide (1 ≤ x.cps.size) = false := by rw [← lenI]; exact eq_false_of_ne_true h2
          have e : fName (.str x) = false := by
            show ((decide (1 ≤ x.cps.size) && decide (x.cps.size ≤ 12)) && allIn SM x) = _
            rw [h2]
            rfl
          rw [e] at q
          exact q
      · have e : fName d = false := by
          cases hv <;> try rfl
          rename_i x _ _
          show ((decide (1 ≤ x.cps.size) && decide (x.cps.size ≤ 12)) && allIn SM x) = false
          rw [show allIn SM x = false from eq_false_of_ne_true hs, Bool.and_false]
        rw [e] at q
        exact q)) pa_nil))))))
(C8.pss_cut (ps_expr (pe_bm PySem.F.plainAttrs_list PySem.F.slot_list_append PySem.F.type_list_append mt_append (pv 6) (pa_cons (pe_imp (t' := fun σ G Q => (∃ r, σ = some v :: r) ∧ Same H G ∧ Q (.bl (fInt d)) G) (pe_and (pe_callB call_isi (by rfl) (by exact TX.isi) (by decide +kernel) (pa_cons (pv 0) (pa_cons (pe_bltn rfl (by exact T.int) (by decide +kernel) (v := .ty "int") rfl) pa_nil))) (pe_one (pe_not (pe_callB call_isi (by rfl) (by exact TX.isi) (by decide +kernel) (pa_cons (pv 0) (pa_cons (pe_bltn rfl (by exact TX.bool) (by decide +kernel) (v := .ty "bool") rfl) pa_nil)))))) (by
      rintro _ G Q1 ⟨⟨r, rfl⟩, S1, q⟩
      refine ⟨_, rfl, v, .ty "int", _, _, _, rfl, .ty "int", (hv.same S1).ty, hv.kI, _, rfl, ?_⟩
      refine ite2 (fun hi => ?_) (fun hi => ?_)
      · refine ⟨_, rfl, v, .ty "bool", _, _, _, rfl, .ty "bool", (hv.same S1).ty, hv.kB, _, rfl, ?_⟩
        unfold fInt at q
        rw [show isI d = true from hi] at q
        exact q
      · unfold fInt at q
        rw [show isI d = false from eq_false_of_ne_true hi] at q
        exact q)) pa_nil)))
(pss_one (ps_ret (pe_cmpR (op_eqD (hu64 hr)) (pe_lst (pa_cons (pe_cl C.sign hr (by decide) rfl (pa_cons (pv 0) pa_nil)) (pa_cons (pe_cl C.text hr (by decide) rfl (pa_cons (pv 0) pa_nil)) (pa_cons (pe_cl C.word hr (by decide) rfl (pa_cons (pv 0) pa_nil)) (pa_cons (pe_cl C.name hr (by decide) rfl (pa_cons (pv 0) pa_nil)) (pa_cons (pe_cl C.int hr (by decide) rfl (pa_cons (pv 0) pa_nil)) pa_nil)))))) (pv 6) (nomark _))))))))), ?_⟩
    refine ⟨fun σ G => σ = [some v, some (.bl (isS d)), some (.str SG), none, none, none, none, none] ∧ Same H G, ?_, ?_⟩
    · exact ⟨_, rfl, v, .ty "str", _, _, _, rfl, .ty "str", hv.ty, hv.kS, rfl, (by show 2 ≤ sizeLine; decide), fun p hp => ⟨p, _, rfl, .inl (.inl upd_same), rfl, _, _, rfl, _, _, rfl, rfl, rfl, sNew hp⟩⟩
    rintro σ G ⟨rfl, S1⟩
    refine ⟨fun σ G => σ = [some v, some (.bl (isS d)), some (.str SG), some (.bl (fText d)), none, none, none, none] ∧ Same H G, ?_, ?_⟩
    · refine ⟨_, rfl, _, rfl, ?_⟩
      refine ite2 (fun hs => ?_) (fun hs => ?_)
      · obtain ⟨x, rfl, rfl, hx, hx2⟩ := hstr hs
        refine ⟨_, rfl, x, rfl, fun D hD => ?_⟩
        refine lc_it walk_str (fun j G' => Same G G' ∧ G' D = some (.lst ((outsJ SG x j).map V.str))) ⟨sNew hD, upd_same⟩ (fun _ _ _ _ => trivial) ?_ ?_
        · rintro j y G1 G2 hj ⟨sm, hD2⟩ ⟨rfl, c, hc, rfl⟩
          refine ⟨rfl, _, rfl, _, rfl, c, SG, rfl, rfl, _, rfl, ?_⟩
          refine ite2 (fun hb => ?_) (fun hb => ?_)
          · refine ⟨_, rfl, _, hD2, ?_, sPut sm hD, ?_⟩
            · rw [List.length_map]
              exact small1000 (Nat.le_trans (outsJ_len SG x j) (by omega))
            · rw [upd_same, outsJ_in hc hb, List.map_append]
              rfl
          · exact ⟨sm, by rw [outsJ_out hc hb]; exact hD2⟩
        · rintro G1 ⟨sm, hD2⟩
          rw [outsJ_all] at hD2
          refine ⟨by show 0 ≤ sizeLine; exact Nat.zero_le _, fun q hq => ⟨.list ((outs SG x).map PyData.str), .list [], dp_strs ((sNew hq) _ _ hD2), .lst (.inl (.inl upd_same)) .nil, shaped_strs _ (outs_ok hx2), rfl, ?_⟩⟩
          rw [eq_nil, outs_nil]
          exact ⟨rfl, S1.trans (sm.trans (sNew hq))⟩
      · refine ⟨?_, S1⟩
        have e : fText d = false := by cases hv <;> first | rfl | exact absurd rfl hs
        rw [e]
        rfl
    rintro σ G ⟨rfl, S1⟩
    refine ⟨fun σ G => σ = [some v, some (.bl (isS d)), some (.str SG), some (.bl (fText d)), some (.bl (fWord d)), none, none, none] ∧ Same H G, ?_, ?_⟩
    · have put : ∀ b, fWord d = b → ([some v, some (.bl (isS d)), some (.str SG), some (.bl (fText d)), none, none, none, none] : L2.St).set 4 (some (.bl b)) = [some v, some (.bl (isS d)), some (.str SG), some (.bl (fText d)), some (.bl (fWord d)), none, none, none] := by
        rintro _ rfl
        rfl
      refine ⟨_, rfl, _, rfl, ?_⟩
      refine ite2 (fun hs => ?_) (fun hs => ?_)
      · obtain ⟨x, rfl, rfl, hx, hx2⟩ := hstr (by cases hv <;> first | rfl | (cases hs; done))
        have h1 : allIn SG x = true := hs
        refine ⟨_, rfl, _, _, rfl, ⟨szl hx, rfl⟩, _, _, rfl, rfl, _, rfl, ?_⟩
        refine ite2 (fun h2 => ?_) (fun h2 => ?_)
        · have h2 : decide (1 ≤ x.cps.size) = true := by rw [← lenI]; exact h2
          refine ⟨_, _, rfl, rfl, _, rfl, ?_⟩
          refine ite2 (fun h3 => ?_) (fun h3 => ?_)
          · have h3 : decide (x.cps.size ≤ 40) = true := by rw [← lenJ]; exact h3
            refine ⟨_, rfl, 32, x, lit32, rfl, _, rfl, ?_⟩
            refine ite2 (fun h4 => ?_) (fun h4 => ?_)
            · exact ⟨_, rfl, 10, x, lit10, rfl, put _ (word_eq h1 h2 h3 h4), S1⟩
            · exact ⟨put _ ((word_eq h1 h2 h3 (eq_false_of_ne_true h4)).trans (by simp)), S1⟩
          · have h3 : decide (x.cps.size ≤ 40) = false := by rw [← lenJ]; exact eq_false_of_ne_true h3
            exact ⟨put _ ((word_eq h1 h2 h3 rfl).trans (by simp)), S1⟩
        · have h2 : decide (1 ≤ x.cps.size) = false := by rw [← lenI]; exact eq_false_of_ne_true h2
          refine ⟨_, rfl, iteF ⟨put _ ((word_eq h1 h2 rfl rfl).trans (by simp)), S1⟩⟩
      · refine ⟨put _ ?_, S1⟩
        cases hv <;> try rfl
        rename_i x _ _
        have h1 : allIn SG x = false := eq_false_of_ne_true hs
        exact (word_eq h1 rfl rfl rfl).trans (by simp)
    rintro σ G ⟨rfl, S1⟩
    refine ⟨fun σ G => σ = [some v, some (.bl (isS d)), some (.str SG), some (.bl (fText d)), some (.bl (fWord d)), some (.bl (fSm d)), none, none] ∧ Same H G, ?_, ?_⟩
    · refine ⟨_, rfl, _, rfl, ?_⟩
      refine ite2 (fun hs => ?_) (fun hs => ?_)
      · obtain ⟨x, rfl, rfl, hx, hx2⟩ := hstr hs
        refine ⟨_, rfl, x, rfl, fun D hD => ?_⟩
        refine lc_it walk_str (fun j G' => Same G G' ∧ G' D = some (.lst ((outsJ SM x j).map V.str))) ⟨sNew hD, upd_same⟩ (fun _ _ _ _ => trivial) ?_ ?_
        · rintro j y G1 G2 hj ⟨sm, hD2⟩ ⟨rfl, c, hc, rfl⟩
          refine ⟨rfl, _, rfl, c, SM, rfl, rfl, _, rfl, ?_⟩
          refine ite2 (fun hb => ?_) (fun hb => ?_)
          · refine ⟨_, rfl, _, hD2, ?_, sPut sm hD, ?_⟩
            · rw [List.length_map]
              exact small1000 (Nat.le_trans (outsJ_len SM x j) (by omega))
            · rw [upd_same, outsJ_in hc hb, List.map_append]
              rfl
          · exact ⟨sm, by rw [outsJ_out hc hb]; exact hD2⟩
        · rintro G1 ⟨sm, hD2⟩
          rw [outsJ_all] at hD2
          refine ⟨by show 0 ≤ sizeLine; exact Nat.zero_le _, fun q hq => ⟨.list ((outs SM x).map PyData.str), .list [], dp_strs ((sNew hq) _ _ hD2), .lst (.inl (.inl upd_same)) .nil, shaped_strs _ (outs_ok hx2), rfl, ?_⟩⟩
          rw [eq_nil, outs_nil]
          exact ⟨rfl, S1.trans (sm.trans (sNew hq))⟩
      · refine ⟨?_, S1⟩
        have e : fSm d = false := by cases hv <;> first | rfl | exact absurd rfl hs
        rw [e]
        rfl
    rintro σ G ⟨rfl, S1⟩
    refine ⟨fun σ G => ∃ q, σ = [some v, some (.bl (isS d)), some (.str SG), some (.bl (fText d)), some (.bl (fWord d)), some (.bl (fSm d)), some (.ref q), none] ∧ Same H G ∧ G q = some (.lst [.bl (fSign d), .bl (fText d), .bl (fWord d), .bl (fName d)]) ∧ H q = none, ?_, ?_⟩
    · refine ⟨rfl, _, rfl, _, rfl, rfl, by show 4 ≤ sizeLine; decide, fun q hq => ?_⟩
      exact ⟨q, rfl, S1.trans (sNew hq), upd_same, S1.free hq⟩
    rintro σ G ⟨q, rfl, S1, hq, hn⟩
    refine ⟨fun σ G => σ = [some v, some (.bl (isS d)), some (.str SG), some (.bl (fText d)), some (.bl (fWord d)), some (.bl (fSm d)), some (.ref q), none] ∧ Same H G ∧ G q = some (.lst [.bl (fSign d), .bl (fText d), .bl (fWord d), .bl (fName d), .bl (fInt d)]), ?_, ?_⟩
    · refine ⟨_, rfl, .inl ⟨rfl, _, .inl (.inl hq)⟩, ⟨_, rfl⟩, S1, q, _, _, rfl, rfl, hq, by show 4 < sizeLine; decide, ?_⟩
      exact ⟨rfl, sPut S1 hn, upd_same⟩
    rintro σ G ⟨rfl, S1, hq⟩
    refine ⟨_, rfl, v, d, t, rfl, hv.same S1, fun G1 s1 => ⟨_, rfl, v, d, t, rfl, hv.same (S1.trans s1), fun G2 s2 => ⟨_, rfl, v, d, t, rfl, hv.same (S1.trans (s1.trans s2)), fun G3 s3 => ⟨_, rfl, v, d, t, rfl, hv.same (S1.trans (s1.trans (s2.trans s3))), fun G4 s4 => ⟨_, rfl, v, d, t, rfl, hv.same (S1.trans (s1.trans (s2.trans (s3.trans s4)))), fun G5 s5 => ?_⟩⟩⟩⟩⟩
    have s6 := s1.trans (s2.trans (s3.trans (s4.trans s5)))
    refine ⟨by show 5 ≤ sizeLine; decide, fun q2 hq2 => ⟨_, rfl, .list [.bool (fSign d), .bool (fText d), .bool (fWord d), .bool (fName d), .bool (fInt d)], .list [.bool (fSign d), .bool (fText d), .bool (fWord d), .bool (fName d), .bool (fInt d)], ?_, ?_, rfl, rfl, ?_⟩⟩
    · exact .lst (.inl (.inl upd_same)) (.cons (.bl _) (.cons (.bl _) (.cons (.bl _) (.cons (.bl _) (.cons (.bl _) .nil)))))
    · exact .lst (.inl (.inl ((s6.trans (sNew hq2)) _ _ hq))) (.cons (.bl _) (.cons (.bl _) (.cons (.bl _) (.cons (.bl _) (.cons (.bl _) .nil)))))
    · rw [eqv_bools]
      exact k _ (S1.trans (s6.trans (sNew hq2)))
end
end Wq
set_option Elab.async false
set_option linter.all false
set_option maxRecDepth 100000
set_option maxHeartbeats 4000000
namespace Wq
open PySem PySem.Spec PyProof.Rows L2
/-- the class at C: an exception class right below the one at S, which is right below ValueError -/
def LX (K : PySem.W.Frag) (C S : Addr) : Prop := ∃ nm q N bs sn sub ab col dd k0 k1 k2 k3 k5, K.lookup C = some (excClassObj nm q C N bs (.ref S :: PySem.HandSPX.veTail) true sn sub ab col dd k0 k1 k2 k3 k5 "ValueError.__new__")
theorem LX.cls {K : PySem.W.Frag} {C S : Addr} (h : LX K C S) : ∃ cd, PySem.W.clsIn K C = some cd ∧ cd.mro = .ref C :: .ref S :: PySem.HandSPX.veTail ∧ cd.hasDict = true := by
  obtain ⟨nm, q, N, bs, sn, sub, ab, col, dd, k0, k1, k2, k3, k5, hC⟩ := h
  exact ⟨_, by unfold PySem.W.clsIn; rw [hC] <;> rfl, rfl, rfl⟩
theorem LX.ty {K : PySem.W.Frag} {C S : Addr} (h : LX K C S) : PySem.W.typeIn K (.ref C) = some (.type "type") := by
  obtain ⟨nm, q, N, bs, sn, sub, ab, col, dd, k0, k1, k2, k3, k5, hC⟩ := h
  show (K.lookup C).map (·.cls) = _
  rw [hC]
  rfl
theorem LX.mro {K : PySem.W.Frag} {C S : Addr} (h : LX K C S) (b : Value) : PySem.W.mroIn K C b = some ((.ref C :: .ref S :: PySem.HandSPX.veTail : List Value).contains b) := by
  obtain ⟨cd, h1, h2, _⟩ := h.cls
  unfold PySem.W.mroIn
  rw [h1, Option.bind_some, h2]
  rfl
theorem LX.sub {K : PySem.W.Frag} {C S : Addr} (h : LX K C S) (b : Value) : PySem.W.subIn K (.ref C) b = some ((.ref C :: .ref S :: PySem.HandSPX.veTail : List Value).contains b) := h.mro b
theorem LX.hd {K : PySem.W.Frag} {C S : Addr} (h : LX K C S) : PySem.W.hasDictIn K C = true := by
  obtain ⟨cd, h1, _, h3⟩ := h.cls
  unfold PySem.W.hasDictIn
  rw [h1]
  exact h3
theorem cont_ref {C S D : Addr} (h1 : C ≠ D) (h2 : S ≠ D) : (.ref C :: .ref S :: PySem.HandSPX.veTail : List Value).contains (.ref D) = false := by
  have e1 : (Value.ref D == Value.ref C) = false := by simpa using fun z => h1 z.symm
  have e2 : (Value.ref D == Value.ref S) = false := by simpa using fun z => h2 z.symm
  rw [List.contains_cons, List.contains_cons, e1, e2]
  rfl
/-- isinstance of an exception of the class at C and a class right below S -/
theorem LX.kit {K : PySem.W.Frag} {C D S : Addr} (h : LX K C S) (g : LX K D S) (n : S ≠ D) : PySem.W.kitOne K (.ref C) (.ref D) = some (decide (C = D)) := by
  by_cases e : C = D
  · subst e
    rw [decide_eq_true rfl]
    unfold PySem.W.kitOne
    rw [if_pos (by simp)]
  · rw [decide_eq_false e]
    unfold PySem.W.kitOne
    rw [if_neg (by simpa using e)]
    obtain ⟨cd, g1, _, _⟩ := g.cls
    show (if ((PySem.W.clsIn K D).isSome && PySem.W.typeIn K (.ref D) == some (.type "type")) = true then PySem.W.subIn K (.ref C) (.ref D) else none) = _
    rw [if_pos (by rw [g1, g.ty]; rfl), h.sub, cont_ref e n]
theorem LX.kitS {K : PySem.W.Frag} {C S : Addr} (h : LX K C S) (hs : (PySem.W.clsIn K S).isSome = true) (ht : PySem.W.typeIn K (.ref S) = some (.type "type")) : PySem.W.kitOne K (.ref C) (.ref S) = some true := by
  unfold PySem.W.kitOne
  split
  · rfl
  · show (if ((PySem.W.clsIn K S).isSome && PySem.W.typeIn K (.ref S) == some (.type "type")) = true then PySem.W.subIn K (.ref C) (.ref S) else none) = _
    rw [if_pos (by rw [hs, ht]; rfl), h.sub]
    simp
theorem LX.kitV {K : PySem.W.Frag} {C S : Addr} (h : LX K C S) : PySem.W.kitOne K (.ref C) (.type "ValueError") = some true := by
  unfold PySem.W.kitOne
  rw [if_neg (by simp)]
  show (if PySem.W.kitMeta "ValueError" = true then PySem.W.subIn K (.ref C) (.type "ValueError") else none) = _
  rw [if_pos (by decide +kernel), h.sub]
  rfl
/-- what is written of each class -/
structure Ec (K : PySem.W.Frag) (mg : Str → Option Value) (S C : Addr) (x : Str) : Prop where
  lk : LX K C S
  gC : mg x = some (.ref C)
  kC : PySem.W.keepIn K (.ref C) = true
  ga : PySem.W.findIn K (.ref C) "__getattribute__" = some (some (.builtin "BaseException.__getattribute__"))
  gg : PySem.W.findIn K (.ref C) "__getattr__" = some none
  ha : PySem.W.findIn K (.ref C) "__class__" = some (some (.builtin "object.__class__"))
structure Ecc (K : PySem.W.Frag) : Prop where
  hn : PySem.W.specialIn K (.builtin "object.__class__") "__get__" = some (some (.builtin "getset_descriptor.__get__"))
  ht : PySem.W.takesIn K (.builtin "object.__class__") = some true
theorem Ec.xf {K : PySem.W.Frag} {mg : Str → Option Value} {S C : Addr} {x : Str} (e : Ec K mg S C x) : XfC K C := ⟨e.ga, e.gg, by rw [e.lk.sub]; rfl, e.lk.hd⟩
theorem Ec.ex {K : PySem.W.Frag} {mg : Str → Option Value} {S C : Addr} {x : Str} (e : Ec K mg S C x) (c : Ecc K) : ExcC K C := ⟨e.ga, e.gg, by rw [e.lk.sub]; rfl, e.lk.hd, e.ha, c.hn, c.ht, by rw [e.lk.mro]; rfl⟩
theorem Ec.ox {K : PySem.W.Frag} {mg : Str → Option Value} {S C : Addr} {x : Str} (e : Ec K mg S C x) (sa : PySem.W.findIn K (.ref C) "__setattr__" = some (some (.builtin "object.__setattr__"))) : OexC K C := by
  obtain ⟨nm, q, N, bs, sn, sub, ab, col, dd, k0, k1, k2, k3, k5, hC⟩ := e.lk
  exact ⟨⟨nm, q, N, bs, _, sn, sub, ab, col, dd, k0, k1, k2, k3, k5, hC, show PySem.HandSPX.refsVE PySem.HandSPX.veTail = true by decide +kernel⟩, sa, by rw [e.lk.sub]; rfl, e.lk.ty, e.kC⟩
end Wq
set_option Elab.async false
set_option linter.all false
set_option maxRecDepth 100000
set_option maxHeartbeats 4000000
namespace Wq
open PySem PySem.Spec PyProof.Rows L2
structure MAt (K : PySem.W.Frag) (C : Addr) (m qual : Str) (st : Stmt) : Prop where
  ex : ∃ (f : Addr) (fd : FuncData), Fun K m qual st f fd ∧ Meth K C m f
theorem m_mk {K : PySem.W.Frag} {C : Addr} {m qual : Str} {st : Stmt} {f : Addr} {oc : Value} {od an : Option Addr} {osl : Array (Option Value)} {kV doc pm cdv ct : Value}
    (a : PySem.W.findIn K (.ref C) m = some (some (.ref f))) (i : PySem.W.isFn K (.ref f) = true) (l : K.lookup f = some ⟨oc, od, .func (PySem.W.fnOf m qual (defArgs st) (defBody st) (defScope st) .none kV doc pm an cdv ct), osl⟩)
    (c : PySem.W.codeIn K cdv qual = true) (k : PySem.W.keepIn K (.ref f) = true) : MAt K C m qual st := ⟨f, _, fun_mk l c k, ⟨a, i, k⟩⟩
/-- __init__ keeps its arguments as fields -/
def spI (C : Addr) (fs : List Str) : Sp := fun vs H Q _ => ∃ (a : Addr) (ys : List V), vs = .ref a :: ys ∧ ys.length = fs.length ∧ H a = some (exo a C none) ∧ ∀ H' d, H d = none → d ≠ a → (∀ b o, H b = some o → b ≠ a → H' b = some o) → H' a = some (exo a C (some d)) → H' d = some (exd d (fs.zip ys).reverse) → Q .non H'
/-- the class at C, called x, can be made of the fields fs -/
structure Ei (P : Program) (w : World) (K : PySem.W.Frag) (mg : Str → Option Value) (base : Heap) (S C : Addr) (x : Str) (fs : List Str) : Prop where
  ec : Ec K mg S C x
  ox : OexC K C
  nf : ∀ f ∈ fs, PySem.W.findIn K (.ref C) f = some none
  ex : ∃ (fI : Addr) (fd : FuncData) (ps : List Str), PySem.W.findIn K (.ref C) "__init__" = some (some (.ref fI)) ∧ PySem.W.typeIn K (.ref fI) = some (.type "function") ∧ FnOk P w K mg base CX0 1 fI fd ps (spI C fs) ∧ Binds K fd ps []
section
variable {P : Program} {w : World} {K : PySem.W.Frag} {mg : Str → Option Value} {base : Heap} {S C : Addr}
abbrev sBadText : Stmt := inClass (top 15) 0
theorem scBadText : FnScope ["self", "line", "column"] ["self", "line", "column"] (defScope sBadText) := ⟨rfl, rfl, rfl, by decide +kernel, rfl, by decide +kernel, by decide +kernel⟩
theorem ei_BadText (e : Ec K mg S C "BadText") (sa : PySem.W.findIn K (.ref C) "__setattr__" = some (some (.builtin "object.__setattr__"))) (nf : ∀ f ∈ (["line", "column"] : List Str), PySem.W.findIn K (.ref C) f = some none) (m : MAt K C "__init__" "BadText.__init__" sBadText) : Ei P w K mg base S C "BadText" ["line", "column"] := by
  obtain ⟨fI, fd, F, M⟩ := m.ex
  refine ⟨e, e.ox sa, nf, fI, fd, ["self", "line", "column"], M.at_, beq_iff_eq.mp M.fn, ?_, F.binds fun _ _ _ _ _ _ us hl => match us, hl with | [_, _, _], _ => rfl⟩
  refine F.ok scBadText (fun vs H Q E h => ?_) (fun cdv A outer s H vs Q E hr h => ?_)
  · obtain ⟨a, ys, rfl, hl, _⟩ := h
    show ys.length + 1 = 3
    rw [hl]
    rfl
  · obtain ⟨a, ys, rfl, hl, ha, k⟩ := h
    match ys, hl with
    | [y1, y2], _ =>
      refine ⟨_, pss_cons (ps_ost (pv 0) (pv 1)) (pss_one (ps_ost (pv 0) (pv 2))), _, rfl, _, rfl, a, C, rfl, e.ox sa, nf "line" (by simp), .inl ⟨ha, fun dx n ne => ?_⟩⟩
      refine ⟨_, rfl, _, rfl, a, C, rfl, e.ox sa, nf "column" (by simp), .inr ⟨dx, [("line", y1)], ?_, ?_, ?_, ?_⟩⟩
      · exact upd_same
      · rw [upd_ne ne]; exact upd_same
      · show 1 ≤ 900
        decide
      refine k _ dx n ne (fun b o hb hn => ?_) ?_ ?_
      · have hd : b ≠ dx := ne_of_none hb n
        rw [upd_ne hd, upd_ne hn, upd_ne hd]
        exact hb
      · rw [upd_ne ne.symm]; exact upd_same
      · exact upd_same
abbrev sBadWord : Stmt := inClass (top 16) 0
theorem scBadWord : FnScope ["self", "what"] ["self", "what"] (defScope sBadWord) := ⟨rfl, rfl, rfl, by decide +kernel, rfl, by decide +kernel, by decide +kernel⟩
theorem ei_BadWord (e : Ec K mg S C "BadWord") (sa : PySem.W.findIn K (.ref C) "__setattr__" = some (some (.builtin "object.__setattr__"))) (nf : ∀ f ∈ (["what"] : List Str), PySem.W.findIn K (.ref C) f = some none) (m : MAt K C "__init__" "BadWord.__init__" sBadWord) : Ei P w K mg base S C "BadWord" ["what"] := by
  obtain ⟨fI, fd, F, M⟩ := m.ex
  refine ⟨e, e.ox sa, nf, fI, fd, ["self", "what"], M.at_, beq_iff_eq.mp M.fn, ?_, F.binds fun _ _ _ _ _ _ us hl => match us, hl with | [_, _], _ => rfl⟩
  refine F.ok scBadWord (fun vs H Q E h => ?_) (fun cdv A outer s H vs Q E hr h => ?_)
  · obtain ⟨a, ys, rfl, hl, _⟩ := h
    show ys.length + 1 = 2
    rw [hl]
    rfl
  · obtain ⟨a, ys, rfl, hl, ha, k⟩ := h
    match ys, hl with
    | [y1], _ =>
      refine ⟨_, pss_one (ps_ost (pv 0) (pv 1)), _, rfl, _, rfl, a, C, rfl, e.ox sa, nf "what" (by simp), .inl ⟨ha, fun dx n ne => ?_⟩⟩
      refine k _ dx n ne (fun b o hb hn => ?_) ?_ ?_
      · have hd : b ≠ dx := ne_of_none hb n
        rw [upd_ne hn, upd_ne hd]
        exact hb
      · exact upd_same
      · rw [upd_ne ne]; exact upd_same
abbrev sBadNumber : Stmt := inClass (top 17) 0
theorem scBadNumber : FnScope ["self", "what", "number"] ["self", "what", "number"] (defScope sBadNumber) := ⟨rfl, rfl, rfl, by decide +kernel, rfl, by decide +kernel, by decide +kernel⟩
theorem ei_BadNumber (e : Ec K mg S C "BadNumber") (sa : PySem.W.findIn K (.ref C) "__setattr__" = some (some (.builtin "object.__setattr__"))) (nf : ∀ f ∈ (["what", "number"] : List Str), PySem.W.findIn K (.ref C) f = some none) (m : MAt K C "__init__" "BadNumber.__init__" sBadNumber) : Ei P w K mg base S C "BadNumber" ["what", "number"] := by
  obtain ⟨fI, fd, F, M⟩ := m.ex
  refine ⟨e, e.ox sa, nf, fI, fd, ["self", "what", "number"], M.at_, beq_iff_eq.mp M.fn, ?_, F.binds fun _ _ _ _ _ _ us hl => match us, hl with | [_, _, _], _ => rfl⟩
  refine F.ok scBadNumber (fun vs H Q E h => ?_) (fun cdv A outer s H vs Q E hr h => ?_)
  · obtain ⟨a, ys, rfl, hl, _⟩ := h
    show ys.length + 1 = 3
    rw [hl]
    rfl
  · obtain ⟨a, ys, rfl, hl, ha, k⟩ := h
    match ys, hl with
    | [y1, y2], _ =>
      refine ⟨_, pss_cons (ps_ost (pv 0) (pv 1)) (pss_one (ps_ost (pv 0) (pv 2))), _, rfl, _, rfl, a, C, rfl, e.ox sa, nf "what" (by simp), .inl ⟨ha, fun dx n ne => ?_⟩⟩
      refine ⟨_, rfl, _, rfl, a, C, rfl, e.ox sa, nf "number" (by simp), .inr ⟨dx, [("what", y1)], ?_, ?_, ?_, ?_⟩⟩
      · exact upd_same
      · rw [upd_ne ne]; exact upd_same
      · show 1 ≤ 900
        decide
      refine k _ dx n ne (fun b o hb hn => ?_) ?_ ?_
      · have hd : b ≠ dx := ne_of_none hb n
        rw [upd_ne hd, upd_ne hn, upd_ne hd]
        exact hb
      · rw [upd_ne ne.symm]; exact upd_same
      · exact upd_same
abbrev sBadBytes : Stmt := inClass (top 18) 0
theorem scBadBytes : FnScope ["self", "place"] ["self", "place"] (defScope sBadBytes) := ⟨rfl, rfl, rfl, by decide +kernel, rfl, by decide +kernel, by decide +kernel⟩
theorem ei_BadBytes (e : Ec K mg S C "BadBytes") (sa : PySem.W.findIn K (.ref C) "__setattr__" = some (some (.builtin "object.__setattr__"))) (nf : ∀ f ∈ (["place"] : List Str), PySem.W.findIn K (.ref C) f = some none) (m : MAt K C "__init__" "BadBytes.__init__" sBadBytes) : Ei P w K mg base S C "BadBytes" ["place"] := by
  obtain ⟨fI, fd, F, M⟩ := m.ex
  refine ⟨e, e.ox sa, nf, fI, fd, ["self", "place"], M.at_, beq_iff_eq.mp M.fn, ?_, F.binds fun _ _ _ _ _ _ us hl => match us, hl with | [_, _], _ => rfl⟩
  refine F.ok scBadBytes (fun vs H Q E h => ?_) (fun cdv A outer s H vs Q E hr h => ?_)
  · obtain ⟨a, ys, rfl, hl, _⟩ := h
    show ys.length + 1 = 2
    rw [hl]
    rfl
  · obtain ⟨a, ys, rfl, hl, ha, k⟩ := h
    match ys, hl with
    | [y1], _ =>
      refine ⟨_, pss_one (ps_ost (pv 0) (pv 1)), _, rfl, _, rfl, a, C, rfl, e.ox sa, nf "place" (by simp), .inl ⟨ha, fun dx n ne => ?_⟩⟩
      refine k _ dx n ne (fun b o hb hn => ?_) ?_ ?_
      · have hd : b ≠ dx := ne_of_none hb n
        rw [upd_ne hn, upd_ne hd]
        exact hb
      · exact upd_same
      · rw [upd_ne ne]; exact upd_same
abbrev sTooMany : Stmt := inClass (top 19) 0
theorem scTooMany : FnScope ["self", "what", "many", "limit"] ["self", "what", "many", "limit"] (defScope sTooMany) := ⟨rfl, rfl, rfl, by decide +kernel, rfl, by decide +kernel, by decide +kernel⟩
theorem ei_TooMany (e : Ec K mg S C "TooMany") (sa : PySem.W.findIn K (.ref C) "__setattr__" = some (some (.builtin "object.__setattr__"))) (nf : ∀ f ∈ (["what", "many", "limit"] : List Str), PySem.W.findIn K (.ref C) f = some none) (m : MAt K C "__init__" "TooMany.__init__" sTooMany) : Ei P w K mg base S C "TooMany" ["what", "many", "limit"] := by
  obtain ⟨fI, fd, F, M⟩ := m.ex
  refine ⟨e, e.ox sa, nf, fI, fd, ["self", "what", "many", "limit"], M.at_, beq_iff_eq.mp M.fn, ?_, F.binds fun _ _ _ _ _ _ us hl => match us, hl with | [_, _, _, _], _ => rfl⟩
  refine F.ok scTooMany (fun vs H Q E h => ?_) (fun cdv A outer s H vs Q E hr h => ?_)
  · obtain ⟨a, ys, rfl, hl, _⟩ := h
    show ys.length + 1 = 4
    rw [hl]
    rfl
  · obtain ⟨a, ys, rfl, hl, ha, k⟩ := h
    match ys, hl with
    | [y1, y2, y3], _ =>
      refine ⟨_, pss_cons (ps_ost (pv 0) (pv 1)) (pss_cons (ps_ost (pv 0) (pv 2)) (pss_one (ps_ost (pv 0) (pv 3)))), _, rfl, _, rfl, a, C, rfl, e.ox sa, nf "what" (by simp), .inl ⟨ha, fun dx n ne => ?_⟩⟩
      refine ⟨_, rfl, _, rfl, a, C, rfl, e.ox sa, nf "many" (by simp), .inr ⟨dx, [("what", y1)], ?_, ?_, ?_, ?_⟩⟩
      · exact upd_same
      · rw [upd_ne ne]; exact upd_same
      · show 1 ≤ 900
        decide
      refine ⟨_, rfl, _, rfl, a, C, rfl, e.ox sa, nf "limit" (by simp), .inr ⟨dx, [("many", y2), ("what", y1)], ?_, ?_, ?_, ?_⟩⟩
      · rw [upd_ne ne.symm]; exact upd_same
      · exact upd_same
      · show 2 ≤ 900
        decide
      refine k _ dx n ne (fun b o hb hn => ?_) ?_ ?_
      · have hd : b ≠ dx := ne_of_none hb n
        rw [upd_ne hd, upd_ne hd, upd_ne hn, upd_ne hd]
        exact hb
      · rw [upd_ne ne.symm, upd_ne ne.symm]; exact upd_same
      · exact upd_same
abbrev sNoField : Stmt := inClass (top 20) 0
theorem scNoField : FnScope ["self", "name"] ["self", "name"] (defScope sNoField) := ⟨rfl, rfl, rfl, by decide +kernel, rfl, by decide +kernel, by decide +kernel⟩
theorem ei_NoField (e : Ec K mg S C "NoField") (sa : PySem.W.findIn K (.ref C) "__setattr__" = some (some (.builtin "object.__setattr__"))) (nf : ∀ f ∈ (["name"] : List Str), PySem.W.findIn K (.ref C) f = some none) (m : MAt K C "__init__" "NoField.__init__" sNoField) : Ei P w K mg base S C "NoField" ["name"] := by
  obtain ⟨fI, fd, F, M⟩ := m.ex
  refine ⟨e, e.ox sa, nf, fI, fd, ["self", "name"], M.at_, beq_iff_eq.mp M.fn, ?_, F.binds fun _ _ _ _ _ _ us hl => match us, hl with | [_, _], _ => rfl⟩
  refine F.ok scNoField (fun vs H Q E h => ?_) (fun cdv A outer s H vs Q E hr h => ?_)
  · obtain ⟨a, ys, rfl, hl, _⟩ := h
    show ys.length + 1 = 2
    rw [hl]
    rfl
  · obtain ⟨a, ys, rfl, hl, ha, k⟩ := h
    match ys, hl with
    | [y1], _ =>
      refine ⟨_, pss_one (ps_ost (pv 0) (pv 1)), _, rfl, _, rfl, a, C, rfl, e.ox sa, nf "name" (by simp), .inl ⟨ha, fun dx n ne => ?_⟩⟩
      refine k _ dx n ne (fun b o hb hn => ?_) ?_ ?_
      · have hd : b ≠ dx := ne_of_none hb n
        rw [upd_ne hn, upd_ne hd]
        exact hb
      · exact upd_same
      · rw [upd_ne ne]; exact upd_same
abbrev sNoPaper : Stmt := inClass (top 21) 0
theorem scNoPaper : FnScope ["self", "key"] ["self", "key"] (defScope sNoPaper) := ⟨rfl, rfl, rfl, by decide +kernel, rfl, by decide +kernel, by decide +kernel⟩
theorem ei_NoPaper (e : Ec K mg S C "NoPaper") (sa : PySem.W.findIn K (.ref C) "__setattr__" = some (some (.builtin "object.__setattr__"))) (nf : ∀ f ∈ (["key"] : List Str), PySem.W.findIn K (.ref C) f = some none) (m : MAt K C "__init__" "NoPaper.__init__" sNoPaper) : Ei P w K mg base S C "NoPaper" ["key"] := by
  obtain ⟨fI, fd, F, M⟩ := m.ex
  refine ⟨e, e.ox sa, nf, fI, fd, ["self", "key"], M.at_, beq_iff_eq.mp M.fn, ?_, F.binds fun _ _ _ _ _ _ us hl => match us, hl with | [_, _], _ => rfl⟩
  refine F.ok scNoPaper (fun vs H Q E h => ?_) (fun cdv A outer s H vs Q E hr h => ?_)
  · obtain ⟨a, ys, rfl, hl, _⟩ := h
    show ys.length + 1 = 2
    rw [hl]
    rfl
  · obtain ⟨a, ys, rfl, hl, ha, k⟩ := h
    match ys, hl with
    | [y1], _ =>
      refine ⟨_, pss_one (ps_ost (pv 0) (pv 1)), _, rfl, _, rfl, a, C, rfl, e.ox sa, nf "key" (by simp), .inl ⟨ha, fun dx n ne => ?_⟩⟩
      refine k _ dx n ne (fun b o hb hn => ?_) ?_ ?_
      · have hd : b ≠ dx := ne_of_none hb n
        rw [upd_ne hn, upd_ne hd]
        exact hb
      · exact upd_same
      · rw [upd_ne ne]; exact upd_same
abbrev sTakenKey : Stmt := inClass (top 22) 0
theorem scTakenKey : FnScope ["self", "key"] ["self", "key"] (defScope sTakenKey) := ⟨rfl, rfl, rfl, by decide +kernel, rfl, by decide +kernel, by decide +kernel⟩
theorem ei_TakenKey (e : Ec K mg S C "TakenKey") (sa : PySem.W.findIn K (.ref C) "__setattr__" = some (some (.builtin "object.__setattr__"))) (nf : ∀ f ∈ (["key"] : List Str), PySem.W.findIn K (.ref C) f = some none) (m : MAt K C "__init__" "TakenKey.__init__" sTakenKey) : Ei P w K mg base S C "TakenKey" ["key"] := by
  obtain ⟨fI, fd, F, M⟩ := m.ex
  refine ⟨e, e.ox sa, nf, fI, fd, ["self", "key"], M.at_, beq_iff_eq.mp M.fn, ?_, F.binds fun _ _ _ _ _ _ us hl => match us, hl with | [_, _], _ => rfl⟩
  refine F.ok scTakenKey (fun vs H Q E h => ?_) (fun cdv A outer s H vs Q E hr h => ?_)
  · obtain ⟨a, ys, rfl, hl, _⟩ := h
    show ys.length + 1 = 2
    rw [hl]
    rfl
  · obtain ⟨a, ys, rfl, hl, ha, k⟩ := h
    match ys, hl with
    | [y1], _ =>
      refine ⟨_, pss_one (ps_ost (pv 0) (pv 1)), _, rfl, _, rfl, a, C, rfl, e.ox sa, nf "key" (by simp), .inl ⟨ha, fun dx n ne => ?_⟩⟩
      refine k _ dx n ne (fun b o hb hn => ?_) ?_ ?_
      · have hd : b ≠ dx := ne_of_none hb n
        rw [upd_ne hn, upd_ne hd]
        exact hb
      · exact upd_same
      · rw [upd_ne ne]; exact upd_same
abbrev sBroken : Stmt := inClass (top 23) 0
theorem scBroken : FnScope ["self", "name"] ["self", "name"] (defScope sBroken) := ⟨rfl, rfl, rfl, by decide +kernel, rfl, by decide +kernel, by decide +kernel⟩
theorem ei_Broken (e : Ec K mg S C "Broken") (sa : PySem.W.findIn K (.ref C) "__setattr__" = some (some (.builtin "object.__setattr__"))) (nf : ∀ f ∈ (["name"] : List Str), PySem.W.findIn K (.ref C) f = some none) (m : MAt K C "__init__" "Broken.__init__" sBroken) : Ei P w K mg base S C "Broken" ["name"] := by
  obtain ⟨fI, fd, F, M⟩ := m.ex
  refine ⟨e, e.ox sa, nf, fI, fd, ["self", "name"], M.at_, beq_iff_eq.mp M.fn, ?_, F.binds fun _ _ _ _ _ _ us hl => match us, hl with | [_, _], _ => rfl⟩
  refine F.ok scBroken (fun vs H Q E h => ?_) (fun cdv A outer s H vs Q E hr h => ?_)
  · obtain ⟨a, ys, rfl, hl, _⟩ := h
    show ys.length + 1 = 2
    rw [hl]
    rfl
  · obtain ⟨a, ys, rfl, hl, ha, k⟩ := h
    match ys, hl with
    | [y1], _ =>
      refine ⟨_, pss_one (ps_ost (pv 0) (pv 1)), _, rfl, _, rfl, a, C, rfl, e.ox sa, nf "name" (by simp), .inl ⟨ha, fun dx n ne => ?_⟩⟩
      refine k _ dx n ne (fun b o hb hn => ?_) ?_ ?_
      · have hd : b ≠ dx := ne_of_none hb n
        rw [upd_ne hn, upd_ne hd]
        exact hb
      · exact upd_same
      · rw [upd_ne ne]; exact upd_same
abbrev sNotAscending : Stmt := inClass (top 25) 0
theorem scNotAscending : FnScope ["self", "index"] ["self", "index"] (defScope sNotAscending) := ⟨rfl, rfl, rfl, by decide +kernel, rfl, by decide +kernel, by decide +kernel⟩
theorem ei_NotAscending (e : Ec K mg S C "NotAscending") (sa : PySem.W.findIn K (.ref C) "__setattr__" = some (some (.builtin "object.__setattr__"))) (nf : ∀ f ∈ (["index"] : List Str), PySem.W.findIn K (.ref C) f = some none) (m : MAt K C "__init__" "NotAscending.__init__" sNotAscending) : Ei P w K mg base S C "NotAscending" ["index"] := by
  obtain ⟨fI, fd, F, M⟩ := m.ex
  refine ⟨e, e.ox sa, nf, fI, fd, ["self", "index"], M.at_, beq_iff_eq.mp M.fn, ?_, F.binds fun _ _ _ _ _ _ us hl => match us, hl with | [_, _], _ => rfl⟩
  refine F.ok scNotAscending (fun vs H Q E h => ?_) (fun cdv A outer s H vs Q E hr h => ?_)
  · obtain ⟨a, ys, rfl, hl, _⟩ := h
    show ys.length + 1 = 2
    rw [hl]
    rfl
  · obtain ⟨a, ys, rfl, hl, ha, k⟩ := h
    match ys, hl with
    | [y1], _ =>
      refine ⟨_, pss_one (ps_ost (pv 0) (pv 1)), _, rfl, _, rfl, a, C, rfl, e.ox sa, nf "index" (by simp), .inl ⟨ha, fun dx n ne => ?_⟩⟩
      refine k _ dx n ne (fun b o hb hn => ?_) ?_ ?_
      · have hd : b ≠ dx := ne_of_none hb n
        rw [upd_ne hn, upd_ne hd]
        exact hb
      · exact upd_same
      · rw [upd_ne ne]; exact upd_same
abbrev sBadOutput : Stmt := inClass (top 26) 0
theorem scBadOutput : FnScope ["self", "index"] ["self", "index"] (defScope sBadOutput) := ⟨rfl, rfl, rfl, by decide +kernel, rfl, by decide +kernel, by decide +kernel⟩
theorem ei_BadOutput (e : Ec K mg S C "BadOutput") (sa : PySem.W.findIn K (.ref C) "__setattr__" = some (some (.builtin "object.__setattr__"))) (nf : ∀ f ∈ (["index"] : List Str), PySem.W.findIn K (.ref C) f = some none) (m : MAt K C "__init__" "BadOutput.__init__" sBadOutput) : Ei P w K mg base S C "BadOutput" ["index"] := by
  obtain ⟨fI, fd, F, M⟩ := m.ex
  refine ⟨e, e.ox sa, nf, fI, fd, ["self", "index"], M.at_, beq_iff_eq.mp M.fn, ?_, F.binds fun _ _ _ _ _ _ us hl => match us, hl with | [_, _], _ => rfl⟩
  refine F.ok scBadOutput (fun vs H Q E h => ?_) (fun cdv A outer s H vs Q E hr h => ?_)
  · obtain ⟨a, ys, rfl, hl, _⟩ := h
    show ys.length + 1 = 2
    rw [hl]
    rfl
  · obtain ⟨a, ys, rfl, hl, ha, k⟩ := h
    match ys, hl with
    | [y1], _ =>
      refine ⟨_, pss_one (ps_ost (pv 0) (pv 1)), _, rfl, _, rfl, a, C, rfl, e.ox sa, nf "index" (by simp), .inl ⟨ha, fun dx n ne => ?_⟩⟩
      refine k _ dx n ne (fun b o hb hn => ?_) ?_ ?_
      · have hd : b ≠ dx := ne_of_none hb n
        rw [upd_ne hn, upd_ne hd]
        exact hb
      · exact upd_same
      · rw [upd_ne ne]; exact upd_same
abbrev sNoPlace : Stmt := inClass (top 27) 0
theorem scNoPlace : FnScope ["self", "place"] ["self", "place"] (defScope sNoPlace) := ⟨rfl, rfl, rfl, by decide +kernel, rfl, by decide +kernel, by decide +kernel⟩
theorem ei_NoPlace (e : Ec K mg S C "NoPlace") (sa : PySem.W.findIn K (.ref C) "__setattr__" = some (some (.builtin "object.__setattr__"))) (nf : ∀ f ∈ (["place"] : List Str), PySem.W.findIn K (.ref C) f = some none) (m : MAt K C "__init__" "NoPlace.__init__" sNoPlace) : Ei P w K mg base S C "NoPlace" ["place"] := by
  obtain ⟨fI, fd, F, M⟩ := m.ex
  refine ⟨e, e.ox sa, nf, fI, fd, ["self", "place"], M.at_, beq_iff_eq.mp M.fn, ?_, F.binds fun _ _ _ _ _ _ us hl => match us, hl with | [_, _], _ => rfl⟩
  refine F.ok scNoPlace (fun vs H Q E h => ?_) (fun cdv A outer s H vs Q E hr h => ?_)
  · obtain ⟨a, ys, rfl, hl, _⟩ := h
    show ys.length + 1 = 2
    rw [hl]
    rfl
  · obtain ⟨a, ys, rfl, hl, ha, k⟩ := h
    match ys, hl with
    | [y1], _ =>
      refine ⟨_, pss_one (ps_ost (pv 0) (pv 1)), _, rfl, _, rfl, a, C, rfl, e.ox sa, nf "place" (by simp), .inl ⟨ha, fun dx n ne => ?_⟩⟩
      refine k _ dx n ne (fun b o hb hn => ?_) ?_ ?_
      · have hd : b ≠ dx := ne_of_none hb n
        rw [upd_ne hn, upd_ne hd]
        exact hb
      · exact upd_same
      · rw [upd_ne ne]; exact upd_same
abbrev sBadRows : Stmt := inClass (top 28) 0
theorem scBadRows : FnScope ["self", "index"] ["self", "index"] (defScope sBadRows) := ⟨rfl, rfl, rfl, by decide +kernel, rfl, by decide +kernel, by decide +kernel⟩
theorem ei_BadRows (e : Ec K mg S C "BadRows") (sa : PySem.W.findIn K (.ref C) "__setattr__" = some (some (.builtin "object.__setattr__"))) (nf : ∀ f ∈ (["index"] : List Str), PySem.W.findIn K (.ref C) f = some none) (m : MAt K C "__init__" "BadRows.__init__" sBadRows) : Ei P w K mg base S C "BadRows" ["index"] := by
  obtain ⟨fI, fd, F, M⟩ := m.ex
  refine ⟨e, e.ox sa, nf, fI, fd, ["self", "index"], M.at_, beq_iff_eq.mp M.fn, ?_, F.binds fun _ _ _ _ _ _ us hl => match us, hl with | [_, _], _ => rfl⟩
  refine F.ok scBadRows (fun vs H Q E h => ?_) (fun cdv A outer s H vs Q E hr h => ?_)
  · obtain ⟨a, ys, rfl, hl, _⟩ := h
    show ys.length + 1 = 2
    rw [hl]
    rfl
  · obtain ⟨a, ys, rfl, hl, ha, k⟩ := h
    match ys, hl with
    | [y1], _ =>
      refine ⟨_, pss_one (ps_ost (pv 0) (pv 1)), _, rfl, _, rfl, a, C, rfl, e.ox sa, nf "index" (by simp), .inl ⟨ha, fun dx n ne => ?_⟩⟩
      refine k _ dx n ne (fun b o hb hn => ?_) ?_ ?_
      · have hd : b ≠ dx := ne_of_none hb n
        rw [upd_ne hn, upd_ne hd]
        exact hb
      · exact upd_same
      · rw [upd_ne ne]; exact upd_same
abbrev sBadLength : Stmt := inClass (top 29) 0
theorem scBadLength : FnScope ["self", "number"] ["self", "number"] (defScope sBadLength) := ⟨rfl, rfl, rfl, by decide +kernel, rfl, by decide +kernel, by decide +kernel⟩
theorem ei_BadLength (e : Ec K mg S C "BadLength") (sa : PySem.W.findIn K (.ref C) "__setattr__" = some (some (.builtin "object.__setattr__"))) (nf : ∀ f ∈ (["number"] : List Str), PySem.W.findIn K (.ref C) f = some none) (m : MAt K C "__init__" "BadLength.__init__" sBadLength) : Ei P w K mg base S C "BadLength" ["number"] := by
  obtain ⟨fI, fd, F, M⟩ := m.ex
  refine ⟨e, e.ox sa, nf, fI, fd, ["self", "number"], M.at_, beq_iff_eq.mp M.fn, ?_, F.binds fun _ _ _ _ _ _ us hl => match us, hl with | [_, _], _ => rfl⟩
  refine F.ok scBadLength (fun vs H Q E h => ?_) (fun cdv A outer s H vs Q E hr h => ?_)
  · obtain ⟨a, ys, rfl, hl, _⟩ := h
    show ys.length + 1 = 2
    rw [hl]
    rfl
  · obtain ⟨a, ys, rfl, hl, ha, k⟩ := h
    match ys, hl with
    | [y1], _ =>
      refine ⟨_, pss_one (ps_ost (pv 0) (pv 1)), _, rfl, _, rfl, a, C, rfl, e.ox sa, nf "number" (by simp), .inl ⟨ha, fun dx n ne => ?_⟩⟩
      refine k _ dx n ne (fun b o hb hn => ?_) ?_ ?_
      · have hd : b ≠ dx := ne_of_none hb n
        rw [upd_ne hn, upd_ne hd]
        exact hb
      · exact upd_same
      · rw [upd_ne ne]; exact upd_same
abbrev sNoBlock : Stmt := inClass (top 30) 0
theorem scNoBlock : FnScope ["self", "index"] ["self", "index"] (defScope sNoBlock) := ⟨rfl, rfl, rfl, by decide +kernel, rfl, by decide +kernel, by decide +kernel⟩
theorem ei_NoBlock (e : Ec K mg S C "NoBlock") (sa : PySem.W.findIn K (.ref C) "__setattr__" = some (some (.builtin "object.__setattr__"))) (nf : ∀ f ∈ (["index"] : List Str), PySem.W.findIn K (.ref C) f = some none) (m : MAt K C "__init__" "NoBlock.__init__" sNoBlock) : Ei P w K mg base S C "NoBlock" ["index"] := by
  obtain ⟨fI, fd, F, M⟩ := m.ex
  refine ⟨e, e.ox sa, nf, fI, fd, ["self", "index"], M.at_, beq_iff_eq.mp M.fn, ?_, F.binds fun _ _ _ _ _ _ us hl => match us, hl with | [_, _], _ => rfl⟩
  refine F.ok scNoBlock (fun vs H Q E h => ?_) (fun cdv A outer s H vs Q E hr h => ?_)
  · obtain ⟨a, ys, rfl, hl, _⟩ := h
    show ys.length + 1 = 2
    rw [hl]
    rfl
  · obtain ⟨a, ys, rfl, hl, ha, k⟩ := h
    match ys, hl with
    | [y1], _ =>
      refine ⟨_, pss_one (ps_ost (pv 0) (pv 1)), _, rfl, _, rfl, a, C, rfl, e.ox sa, nf "index" (by simp), .inl ⟨ha, fun dx n ne => ?_⟩⟩
      refine k _ dx n ne (fun b o hb hn => ?_) ?_ ?_
      · have hd : b ≠ dx := ne_of_none hb n
        rw [upd_ne hn, upd_ne hd]
        exact hb
      · exact upd_same
      · rw [upd_ne ne]; exact upd_same
abbrev sNoFile : Stmt := inClass (top 31) 0
theorem scNoFile : FnScope ["self", "name"] ["self", "name"] (defScope sNoFile) := ⟨rfl, rfl, rfl, by decide +kernel, rfl, by decide +kernel, by decide +kernel⟩
theorem ei_NoFile (e : Ec K mg S C "NoFile") (sa : PySem.W.findIn K (.ref C) "__setattr__" = some (some (.builtin "object.__setattr__"))) (nf : ∀ f ∈ (["name"] : List Str), PySem.W.findIn K (.ref C) f = some none) (m : MAt K C "__init__" "NoFile.__init__" sNoFile) : Ei P w K mg base S C "NoFile" ["name"] := by
  obtain ⟨fI, fd, F, M⟩ := m.ex
  refine ⟨e, e.ox sa, nf, fI, fd, ["self", "name"], M.at_, beq_iff_eq.mp M.fn, ?_, F.binds fun _ _ _ _ _ _ us hl => match us, hl with | [_, _], _ => rfl⟩
  refine F.ok scNoFile (fun vs H Q E h => ?_) (fun cdv A outer s H vs Q E hr h => ?_)
  · obtain ⟨a, ys, rfl, hl, _⟩ := h
    show ys.length + 1 = 2
    rw [hl]
    rfl
  · obtain ⟨a, ys, rfl, hl, ha, k⟩ := h
    match ys, hl with
    | [y1], _ =>
      refine ⟨_, pss_one (ps_ost (pv 0) (pv 1)), _, rfl, _, rfl, a, C, rfl, e.ox sa, nf "name" (by simp), .inl ⟨ha, fun dx n ne => ?_⟩⟩
      refine k _ dx n ne (fun b o hb hn => ?_) ?_ ?_
      · have hd : b ≠ dx := ne_of_none hb n
        rw [upd_ne hn, upd_ne hd]
        exact hb
      · exact upd_same
      · rw [upd_ne ne]; exact upd_same
abbrev sBadCrash : Stmt := inClass (top 32) 0
theorem scBadCrash : FnScope ["self", "what"] ["self", "what"] (defScope sBadCrash) := ⟨rfl, rfl, rfl, by decide +kernel, rfl, by decide +kernel, by decide +kernel⟩
theorem ei_BadCrash (e : Ec K mg S C "BadCrash") (sa : PySem.W.findIn K (.ref C) "__setattr__" = some (some (.builtin "object.__setattr__"))) (nf : ∀ f ∈ (["what"] : List Str), PySem.W.findIn K (.ref C) f = some none) (m : MAt K C "__init__" "BadCrash.__init__" sBadCrash) : Ei P w K mg base S C "BadCrash" ["what"] := by
  obtain ⟨fI, fd, F, M⟩ := m.ex
  refine ⟨e, e.ox sa, nf, fI, fd, ["self", "what"], M.at_, beq_iff_eq.mp M.fn, ?_, F.binds fun _ _ _ _ _ _ us hl => match us, hl with | [_, _], _ => rfl⟩
  refine F.ok scBadCrash (fun vs H Q E h => ?_) (fun cdv A outer s H vs Q E hr h => ?_)
  · obtain ⟨a, ys, rfl, hl, _⟩ := h
    show ys.length + 1 = 2
    rw [hl]
    rfl
  · obtain ⟨a, ys, rfl, hl, ha, k⟩ := h
    match ys, hl with
    | [y1], _ =>
      refine ⟨_, pss_one (ps_ost (pv 0) (pv 1)), _, rfl, _, rfl, a, C, rfl, e.ox sa, nf "what" (by simp), .inl ⟨ha, fun dx n ne => ?_⟩⟩
      refine k _ dx n ne (fun b o hb hn => ?_) ?_ ?_
      · have hd : b ≠ dx := ne_of_none hb n
        rw [upd_ne hn, upd_ne hd]
        exact hb
      · exact upd_same
      · rw [upd_ne ne]; exact upd_same
abbrev sTornFile : Stmt := inClass (top 33) 0
theorem scTornFile : FnScope ["self", "name"] ["self", "name"] (defScope sTornFile) := ⟨rfl, rfl, rfl, by decide +kernel, rfl, by decide +kernel, by decide +kernel⟩
theorem ei_TornFile (e : Ec K mg S C "TornFile") (sa : PySem.W.findIn K (.ref C) "__setattr__" = some (some (.builtin "object.__setattr__"))) (nf : ∀ f ∈ (["name"] : List Str), PySem.W.findIn K (.ref C) f = some none) (m : MAt K C "__init__" "TornFile.__init__" sTornFile) : Ei P w K mg base S C "TornFile" ["name"] := by
  obtain ⟨fI, fd, F, M⟩ := m.ex
  refine ⟨e, e.ox sa, nf, fI, fd, ["self", "name"], M.at_, beq_iff_eq.mp M.fn, ?_, F.binds fun _ _ _ _ _ _ us hl => match us, hl with | [_, _], _ => rfl⟩
  refine F.ok scTornFile (fun vs H Q E h => ?_) (fun cdv A outer s H vs Q E hr h => ?_)
  · obtain ⟨a, ys, rfl, hl, _⟩ := h
    show ys.length + 1 = 2
    rw [hl]
    rfl
  · obtain ⟨a, ys, rfl, hl, ha, k⟩ := h
    match ys, hl with
    | [y1], _ =>
      refine ⟨_, pss_one (ps_ost (pv 0) (pv 1)), _, rfl, _, rfl, a, C, rfl, e.ox sa, nf "name" (by simp), .inl ⟨ha, fun dx n ne => ?_⟩⟩
      refine k _ dx n ne (fun b o hb hn => ?_) ?_ ?_
      · have hd : b ≠ dx := ne_of_none hb n
        rw [upd_ne hn, upd_ne hd]
        exact hb
      · exact upd_same
      · rw [upd_ne ne]; exact upd_same
abbrev sBadScoring : Stmt := inClass (top 38) 0
theorem scBadScoring : FnScope ["self", "numbers"] ["self", "numbers"] (defScope sBadScoring) := ⟨rfl, rfl, rfl, by decide +kernel, rfl, by decide +kernel, by decide +kernel⟩
theorem ei_BadScoring (e : Ec K mg S C "BadScoring") (sa : PySem.W.findIn K (.ref C) "__setattr__" = some (some (.builtin "object.__setattr__"))) (nf : ∀ f ∈ (["numbers"] : List Str), PySem.W.findIn K (.ref C) f = some none) (m : MAt K C "__init__" "BadScoring.__init__" sBadScoring) : Ei P w K mg base S C "BadScoring" ["numbers"] := by
  obtain ⟨fI, fd, F, M⟩ := m.ex
  refine ⟨e, e.ox sa, nf, fI, fd, ["self", "numbers"], M.at_, beq_iff_eq.mp M.fn, ?_, F.binds fun _ _ _ _ _ _ us hl => match us, hl with | [_, _], _ => rfl⟩
  refine F.ok scBadScoring (fun vs H Q E h => ?_) (fun cdv A outer s H vs Q E hr h => ?_)
  · obtain ⟨a, ys, rfl, hl, _⟩ := h
    show ys.length + 1 = 2
    rw [hl]
    rfl
  · obtain ⟨a, ys, rfl, hl, ha, k⟩ := h
    match ys, hl with
    | [y1], _ =>
      refine ⟨_, pss_one (ps_ost (pv 0) (pv 1)), _, rfl, _, rfl, a, C, rfl, e.ox sa, nf "numbers" (by simp), .inl ⟨ha, fun dx n ne => ?_⟩⟩
      refine k _ dx n ne (fun b o hb hn => ?_) ?_ ?_
      · have hd : b ≠ dx := ne_of_none hb n
        rw [upd_ne hn, upd_ne hd]
        exact hb
      · exact upd_same
      · rw [upd_ne ne]; exact upd_same
end
end Wq
set_option Elab.async false
set_option linter.all false
set_option maxRecDepth 100000
set_option maxHeartbeats 8000000
namespace Wq
open PySem PySem.Spec PyProof.Rows L2
def names : List Str := ["BadText", "BadWord", "BadNumber", "BadBytes", "TooMany", "NoField", "NoPaper", "TakenKey", "Broken", "Crashed", "NotAscending", "BadOutput", "NoPlace", "BadRows", "BadLength", "NoBlock", "NoFile", "BadCrash", "TornFile", "Merging", "NotMerging", "NothingToUndo", "NothingToRedo", "BadScoring"]
/-- the 24 classes -/
structure ClsX (K : PySem.W.Frag) (mg : Str → Option Value) (S : Addr) (A : Nat → Addr) : Prop where
  ec : ∀ i, i < 24 → Ec K mg S (A i) (names.getD i "")
  inj : ∀ i j, i < 24 → j < 24 → A i = A j → i = j
  nS : ∀ i, i < 24 → S ≠ A i
  cc : Ecc K
  cS : (PySem.W.clsIn K S).isSome = true
  tS : PySem.W.typeIn K (.ref S) = some (.type "type")
  gS : mg "SearchError" = some (.ref S)
theorem ClsX.kit {K : PySem.W.Frag} {mg : Str → Option Value} {S : Addr} {A : Nat → Addr} (C : ClsX K mg S A) {i : Nat} (hi : i < 24) (j : Nat) (hj : j < 24) : PySem.W.kitOne K (.ref (A i)) (.ref (A j)) = some (decide (i = j)) := by
  rw [(C.ec i hi).lk.kit (C.ec j hj).lk (C.nS j hj)]
  exact congrArg some (decide_eq_decide.mpr ⟨C.inj i j hi hj, fun e => by rw [e]⟩)
theorem IsX.same {H H' : Hp} {C : Addr} {x : V} {fs : List (Str × V)} (h : IsX H C x fs) (s : Same H H') : IsX H' C x fs := by
  cases h with
  | dict h1 h2 => exact .dict (s _ _ h1) (s _ _ h2)
  | bare h1 => exact .bare (s _ _ h1)
abbrev sCls : Stmt := top 43
theorem scCls : FnScope ["_law_e", "_law_found", "_law_one"] ["_law_e"] (defScope sCls) := ⟨rfl, rfl, rfl, by decide +kernel, rfl, by decide +kernel, by decide +kernel⟩
def spCls (A : Nat → Addr) : Sp := fun vs H Q _ => ∃ (x : V) (i : Nat) (fs : List (Str × V)), vs = [x] ∧ i < 24 ∧ IsX H (A i) x fs ∧ ∀ H', Same H H' → Q (.int 1) H'
def bits (i : Nat) : List V := (List.range 24).map fun j => V.bl (decide (i = j))
theorem bits_at {i j : Nat} {v : V} (h : (bits i)[j]? = some v) : j < 24 ∧ v = .bl (decide (i = j)) := by
  unfold bits at h
  rw [List.getElem?_map] at h
  by_cases hj : j < 24
  · rw [List.getElem?_range hj] at h
    exact ⟨hj, (Option.some.inj h).symm⟩
  · rw [List.getElem?_eq_none (by rw [List.length_range]; omega)] at h
    cases h
section
variable {P : Program} {w : World} {K : PySem.W.Frag} {mg : Str → Option Value} {base : Heap} {S : Addr} {A : Nat → Addr}
theorem ok_Cls (D : DefAt K mg "_law_classes_of" sCls) (T : Txt K mg) (TX : TxtX mg) (CX : ClsX K mg S A) : Cl P w K mg base 1 "_law_classes_of" (spCls A) := by
  refine cl_of D scCls (fun vs H Q E h => ?_) (fun _ _ _ _ _ _ us hl => match us, hl with | [_], _ => rfl) (fun f cdv A1 outer s H vs Q E hr h => ?_)
  · obtain ⟨x, i, fs, rfl, _⟩ := h
    rfl
  · obtain ⟨x, i, fs, rfl, hi, hx, k⟩ := h
    have kit := CX.kit hi
    have hex := (CX.ec i hi).ex CX.cc
    refine ⟨_, pss_cons (ps_set (i := 1) scCls.nd rfl (Or.inl rfl) (pe_lst (pa_cons (pe_callB call_isX (by rfl) (by exact TX.isi) (by decide +kernel) (pa_cons (pv 0) (pa_cons (pe_glob rfl (by exact (CX.ec 0 (by decide)).gC) (v := .ref (A 0)) rfl) pa_nil))) (pa_cons (pe_callB call_isX (by rfl) (by exact TX.isi) (by decide +kernel) (pa_cons (pv 0) (pa_cons (pe_glob rfl (by exact (CX.ec 1 (by decide)).gC) (v := .ref (A 1)) rfl) pa_nil))) (pa_cons (pe_callB call_isX (by rfl) (by exact TX.isi) (by decide +kernel) (pa_cons (pv 0) (pa_cons (pe_glob rfl (by exact (CX.ec 2 (by decide)).gC) (v := .ref (A 2)) rfl) pa_nil))) (pa_cons (pe_callB call_isX (by rfl) (by exact TX.isi) (by decide +kernel) (pa_cons (pv 0) (pa_cons (pe_glob rfl (by exact (CX.ec 3 (by decide)).gC) (v := .ref (A 3)) rfl) pa_nil))) (pa_cons (pe_callB call_isX (by rfl) (by exact TX.isi) (by decide +kernel) (pa_cons (pv 0) (pa_cons (pe_glob rfl (by exact (CX.ec 4 (by decide)).gC) (v := .ref (A 4)) rfl) pa_nil))) (pa_cons (pe_callB call_isX (by rfl) (by exact TX.isi) (by decide +kernel) (pa_cons (pv 0) (pa_cons (pe_glob rfl (by exact (CX.ec 5 (by decide)).gC) (v := .ref (A 5)) rfl) pa_nil))) (pa_cons (pe_callB call_isX (by rfl) (by exact TX.isi) (by decide +kernel) (pa_cons (pv 0) (pa_cons (pe_glob rfl (by exact (CX.ec 6 (by decide)).gC) (v := .ref (A 6)) rfl) pa_nil))) (pa_cons (pe_callB call_isX (by rfl) (by exact TX.isi) (by decide +kernel) (pa_cons (pv 0) (pa_cons (pe_glob rfl (by exact (CX.ec 7 (by decide)).gC) (v := .ref (A 7)) rfl) pa_nil))) (pa_cons (pe_callB call_isX (by rfl) (by exact TX.isi) (by decide +kernel) (pa_cons (pv 0) (pa_cons (pe_glob rfl (by exact (CX.ec 8 (by decide)).gC) (v := .ref (A 8)) rfl) pa_nil))) (pa_cons (pe_callB call_isX (by rfl) (by exact TX.isi) (by decide +kernel) (pa_cons (pv 0) (pa_cons (pe_glob rfl (by exact (CX.ec 9 (by decide)).gC) (v := .ref (A 9)) rfl) pa_nil))) (pa_cons (pe_callB call_isX (by rfl) (by exact TX.isi) (by decide +kernel) (pa_cons (pv 0) (pa_cons (pe_glob rfl (by exact (CX.ec 10 (by decide)).gC) (v := .ref (A 10)) rfl) pa_nil))) (pa_cons (pe_callB call_isX (by rfl) (by exact TX.isi) (by decide +kernel) (pa_cons (pv 0) (pa_cons (pe_glob rfl (by exact (CX.ec 11 (by decide)).gC) (v := .ref (A 11)) rfl) pa_nil))) (pa_cons (pe_callB call_isX (by rfl) (by exact TX.isi) (by decide +kernel) (pa_cons (pv 0) (pa_cons (pe_glob rfl (by exact (CX.ec 12 (by decide)).gC) (v := .ref (A 12)) rfl) pa_nil))) (pa_cons (pe_callB call_isX (by rfl) (by exact TX.isi) (by decide +kernel) (pa_cons (pv 0) (pa_cons (pe_glob rfl (by exact (CX.ec 13 (by decide)).gC) (v := .ref (A 13)) rfl) pa_nil))) (pa_cons (pe_callB call_isX (by rfl) (by exact TX.isi) (by decide +kernel) (pa_cons (pv 0) (pa_cons (pe_glob rfl (by exact (CX.ec 14 (by decide)).gC) (v := .ref (A 14)) rfl) pa_nil))) (pa_cons (pe_callB call_isX (by rfl) (by exact TX.isi) (by decide +kernel) (pa_cons (pv 0) (pa_cons (pe_glob rfl (by exact (CX.ec 15 (by decide)).gC) (v := .ref (A 15)) rfl) pa_nil))) (pa_cons (pe_callB call_isX (by rfl) (by exact TX.isi) (by decide +kernel) (pa_cons (pv 0) (pa_cons (pe_glob rfl (by exact (CX.ec 16 (by decide)).gC) (v := .ref (A 16)) rfl) pa_nil))) (pa_cons (pe_callB call_isX (by rfl) (by exact TX.isi) (by decide +kernel) (pa_cons (pv 0) (pa_cons (pe_glob rfl (by exact (CX.ec 17 (by decide)).gC) (v := .ref (A 17)) rfl) pa_nil))) (pa_cons (pe_callB call_isX (by rfl) (by exact TX.isi) (by decide +kernel) (pa_cons (pv 0) (pa_cons (pe_glob rfl (by exact (CX.ec 18 (by decide)).gC) (v := .ref (A 18)) rfl) pa_nil))) (pa_cons (pe_callB call_isX (by rfl) (by exact TX.isi) (by decide +kernel) (pa_cons (pv 0) (pa_cons (pe_glob rfl (by exact (CX.ec 19 (by decide)).gC) (v := .ref (A 19)) rfl) pa_nil))) (pa_cons (pe_callB call_isX (by rfl) (by exact TX.isi) (by decide +kernel) (pa_cons (pv 0) (pa_cons (pe_glob rfl (by exact (CX.ec 20 (by decide)).gC) (v := .ref (A 20)) rfl) pa_nil))) (pa_cons (pe_callB call_isX (by rfl) (by exact TX.isi) (by decide +kernel) (pa_cons (pv 0) (pa_cons (pe_glob rfl (by exact (CX.ec 21 (by decide)).gC) (v := .ref (A 21)) rfl) pa_nil))) (pa_cons (pe_callB call_isX (by rfl) (by exact TX.isi) (by decide +kernel) (pa_cons (pv 0) (pa_cons (pe_glob rfl (by exact (CX.ec 22 (by decide)).gC) (v := .ref (A 22)) rfl) pa_nil))) (pa_cons (pe_callB call_isX (by rfl) (by exact TX.isi) (by decide +kernel) (pa_cons (pv 0) (pa_cons (pe_glob rfl (by exact (CX.ec 23 (by decide)).gC) (v := .ref (A 23)) rfl) pa_nil))) pa_nil))))))))))))))))))))))))))
(pss_one (ps_ret (pe_callB call_len_seq (by rfl) (by exact T.len) PySem.boot_len (pa_cons (pe_lc (own := [("_law_one", 2)]) (g := gName 2) (by rfl) scCls.nd (pi_list (pv 1)) (blkOk_by (own := [("_law_one", 2)]) (N := ["_law_e", "_law_found", "_law_one"]) (sc := defScope sCls) (by decide +kernel)) (fun _ _ _ _ _ => (pg_name (i := 2) scCls.nd rfl (Or.inl rfl))) (fun _ _ _ _ _ => (pts_one (pt_val (pv 2)))) (fun _ _ _ _ _ => (pv 2))) pa_nil)))), ?_⟩
    refine ⟨_, rfl, x, .ref (A 0), A i, fs, .ref (A 0), _, rfl, hx, hex, .own _, kit 0 (by decide), _, rfl, x, .ref (A 1), A i, fs, .ref (A 1), _, rfl, hx, hex, .own _, kit 1 (by decide), _, rfl, x, .ref (A 2), A i, fs, .ref (A 2), _, rfl, hx, hex, .own _, kit 2 (by decide), _, rfl, x, .ref (A 3), A i, fs, .ref (A 3), _, rfl, hx, hex, .own _, kit 3 (by decide), _, rfl, x, .ref (A 4), A i, fs, .ref (A 4), _, rfl, hx, hex, .own _, kit 4 (by decide), _, rfl, x, .ref (A 5), A i, fs, .ref (A 5), _, rfl, hx, hex, .own _, kit 5 (by decide), _, rfl, x, .ref (A 6), A i, fs, .ref (A 6), _, rfl, hx, hex, .own _, kit 6 (by decide), _, rfl, x, .ref (A 7), A i, fs, .ref (A 7), _, rfl, hx, hex, .own _, kit 7 (by decide), _, rfl, x, .ref (A 8), A i, fs, .ref (A 8), _, rfl, hx, hex, .own _, kit 8 (by decide), _, rfl, x, .ref (A 9), A i, fs, .ref (A 9), _, rfl, hx, hex, .own _, kit 9 (by decide), _, rfl, x, .ref (A 10), A i, fs, .ref (A 10), _, rfl, hx, hex, .own _, kit 10 (by decide), _, rfl, x, .ref (A 11), A i, fs, .ref (A 11), _, rfl, hx, hex, .own _, kit 11 (by decide), _, rfl, x, .ref (A 12), A i, fs, .ref (A 12), _, rfl, hx, hex, .own _, kit 12 (by decide), _, rfl, x, .ref (A 13), A i, fs, .ref (A 13), _, rfl, hx, hex, .own _, kit 13 (by decide), _, rfl, x, .ref (A 14), A i, fs, .ref (A 14), _, rfl, hx, hex, .own _, kit 14 (by decide), _, rfl, x, .ref (A 15), A i, fs, .ref (A 15), _, rfl, hx, hex, .own _, kit 15 (by decide), _, rfl, x, .ref (A 16), A i, fs, .ref (A 16), _, rfl, hx, hex, .own _, kit 16 (by decide), _, rfl, x, .ref (A 17), A i, fs, .ref (A 17), _, rfl, hx, hex, .own _, kit 17 (by decide), _, rfl, x, .ref (A 18), A i, fs, .ref (A 18), _, rfl, hx, hex, .own _, kit 18 (by decide), _, rfl, x, .ref (A 19), A i, fs, .ref (A 19), _, rfl, hx, hex, .own _, kit 19 (by decide), _, rfl, x, .ref (A 20), A i, fs, .ref (A 20), _, rfl, hx, hex, .own _, kit 20 (by decide), _, rfl, x, .ref (A 21), A i, fs, .ref (A 21), _, rfl, hx, hex, .own _, kit 21 (by decide), _, rfl, x, .ref (A 22), A i, fs, .ref (A 22), _, rfl, hx, hex, .own _, kit 22 (by decide), _, rfl, x, .ref (A 23), A i, fs, .ref (A 23), _, rfl, hx, hex, .own _, kit 23 (by decide), by show 24 ≤ sizeLine; decide, fun q hq => ?_⟩
    have s1 : Same H (upd H q (.lst (bits i))) := sNew hq
    refine ⟨_, rfl, q, rfl, ⟨_, .inl (.inl upd_same)⟩, fun D hD => ?_⟩
    refine lc_list (K := K) (a := q) (xs := bits i) (fun j G => Same (upd H q (.lst (bits i))) G ∧ G D = some (.lst (if i < j then [.bl true] else []))) ⟨sNew hD, upd_same⟩ (fun j G _ ⟨sm, _⟩ => .inl (.inl (sm _ _ upd_same))) ?_ ?_
    · rintro j y G hj ⟨sm, hD2⟩
      obtain ⟨hj, rfl⟩ := bits_at hj
      refine ⟨rfl, _, rfl, _, rfl, ?_⟩
      refine ite2 (fun hb => ?_) (fun hb => ?_)
      · have e : i = j := of_decide_eq_true hb
        subst e
        rw [if_neg (Nat.lt_irrefl i)] at hD2
        refine ⟨_, rfl, _, hD2, by show 0 < sizeLine; decide, sPut sm hD, ?_⟩
        rw [upd_same, if_pos (Nat.lt_succ_self i), decide_eq_true rfl]
        rfl
      · have e : ¬ i = j := fun z => hb (decide_eq_true z)
        refine ⟨sm, ?_⟩
        rw [hD2]
        by_cases h : i < j
        · rw [if_pos h, if_pos (by omega)]
        · rw [if_neg h, if_neg (by omega)]
    · rintro G ⟨sm, hD2⟩
      have e : (bits i).length = 24 := by unfold bits; rw [List.length_map, List.length_range]
      rw [e, if_pos hi] at hD2
      exact ⟨D, _, rfl, .inl (.inl (.inl hD2)), k G (s1.trans sm)⟩
end
end Wq
set_option Elab.async false
set_option linter.all false
set_option maxRecDepth 100000
set_option maxHeartbeats 8000000
namespace Wq
open PySem PySem.Spec PyProof.Rows L2
def flds : List Str := ["what", "place", "name", "key", "index", "number", "numbers"]
abbrev sField : Stmt := top 45
abbrev sSingle : Stmt := top 44
theorem scField : FnScope ["_law_e", "_law_field_here"] ["_law_e", "_law_field_here"] (defScope sField) := ⟨rfl, rfl, rfl, by decide +kernel, rfl, by decide +kernel, by decide +kernel⟩
abbrev NSingle : List Str := ["_law_pen_here", "_law_value", "_law_rows", "_law_found", "_law_e", "_law_field_here"]
theorem scSingle : FnScope NSingle ["_law_pen_here", "_law_value"] (defScope sSingle) := ⟨rfl, rfl, rfl, by decide +kernel, rfl, by decide +kernel, by decide +kernel⟩
def spField (K : PySem.W.Frag) : Sp := fun vs H Q _ => ∃ (fld : Str) (C a d : Addr) (fs : List (Str × V)) (v : V), vs = [.ref a, .str fld] ∧ fld ∈ flds ∧ XfC K C ∧ PySem.W.findIn K (.ref C) fld = some none ∧ H a = some (exo a C (some d)) ∧ H d = some (exd d fs) ∧ fs.lookup fld = some v ∧ Q v H
/-- the pair (an exception of the class at C whose field fld is v, fld) -/
def PairOk (H : Hp) (v : V) (C : Addr) (fld : Str) (t : Addr) : Prop := ∃ a d, H t = some (.tup [.ref a, .str fld]) ∧ H a = some (exo a C (some d)) ∧ H d = some (exd d [(fld, v)])
theorem PairOk.same {H H' : Hp} {v : V} {C : Addr} {fld : Str} {t : Addr} (h : PairOk H v C fld t) (s : Same H H') : PairOk H' v C fld t := by
  obtain ⟨a, d, h1, h2, h3⟩ := h
  exact ⟨a, d, s _ _ h1, s _ _ h2, s _ _ h3⟩
def Pall (H : Hp) (v : V) : List Addr → List (Addr × Str) → Prop
  | [], [] => True
  | t :: ts, c :: cs => PairOk H v c.1 c.2 t ∧ Pall H v ts cs
  | _, _ => False
theorem Pall.same {H H' : Hp} {v : V} (s : Same H H') : ∀ {ts : List Addr} {cs : List (Addr × Str)}, Pall H v ts cs → Pall H' v ts cs
  | [], [], _ => trivial
  | t :: ts, c :: cs, h => ⟨h.1.same s, Pall.same s h.2⟩
theorem Pall.len {H : Hp} {v : V} : ∀ {ts : List Addr} {cs : List (Addr × Str)}, Pall H v ts cs → ts.length = cs.length
  | [], [], _ => rfl
  | t :: ts, c :: cs, h => congrArg Nat.succ (Pall.len h.2)
theorem Pall.at {H : Hp} {v : V} : ∀ {ts : List Addr} {cs : List (Addr × Str)}, Pall H v ts cs → ∀ {t : Addr}, t ∈ ts → ∃ c ∈ cs, PairOk H v c.1 c.2 t
  | [], [], _, t, h => nomatch h
  | t :: ts, c :: cs, h, u, hu => by
    rcases List.mem_cons.mp hu with e | e
    · exact ⟨c, List.mem_cons_self, by rw [e]; exact h.1⟩
    · obtain ⟨c', h1, h2⟩ := Pall.at h.2 e
      exact ⟨c', List.mem_cons_of_mem _ h1, h2⟩
def Ball (H : Hp) : List Addr → List Addr → Prop
  | [], [] => True
  | a :: as, c :: cs => H a = some (ExO (.ref c) a) ∧ Ball H as cs
  | _, _ => False
theorem Ball.same {H H' : Hp} (s : Same H H') : ∀ {ts cs : List Addr}, Ball H ts cs → Ball H' ts cs
  | [], [], _ => trivial
  | t :: ts, c :: cs, h => ⟨s _ _ h.1, Ball.same s h.2⟩
theorem Ball.len {H : Hp} : ∀ {ts cs : List Addr}, Ball H ts cs → ts.length = cs.length
  | [], [], _ => rfl
  | t :: ts, c :: cs, h => congrArg Nat.succ (Ball.len h.2)
theorem Ball.at {H : Hp} : ∀ {ts cs : List Addr}, Ball H ts cs → ∀ {t : Addr}, t ∈ ts → ∃ c ∈ cs, H t = some (ExO (.ref c) t)
  | [], [], _, t, h => nomatch h
  | t :: ts, c :: cs, h, u, hu => by
    rcases List.mem_cons.mp hu with e | e
    · exact ⟨c, List.mem_cons_self, by rw [e]; exact h.1⟩
    · obtain ⟨c', h1, h2⟩ := Ball.at h.2 e
      exact ⟨c', List.mem_cons_of_mem _ h1, h2⟩
def tPair (j : Nat) (C : Addr) (fld : Str) : TE := fun σ H Q => ∃ v, σ[j]? = some (some v) ∧ ∀ t H', H t = none → Same H H' → PairOk H' v C fld t → Q (.ref t) H'
def tPairs (j : Nat) (l : List (Addr × Str)) : TA := fun σ H Q => ∃ v, σ[j]? = some (some v) ∧ ∀ ts H', Same H H' → Pall H' v ts l → Q (ts.map V.ref) H'
def tBares (l : List Addr) : TA := fun σ H Q => ∀ ts H', Same H H' → Ball H' ts l → Q (ts.map V.ref) H'
section
variable {X : Cx} {S C : Addr} {x fld : Str} {j k : Nat} {ev e : Expr} {es : List Expr} {p1 p2 p3 p4 : Pos} {l : List (Addr × Str)} {lb : List Addr}
theorem pe_pair {x1 x2} (E : Ei X.prog X.w X.K X.mg X.base S C x [fld]) (hr : Room 2 X.A) (hg : Gl X x) (hv : PE X ev (tVar j)) (hdb : (x == ("__debug__" : Str)) = false := by decide) (he : starEach [ev] X.env = (false, eval ev X.env) :: starEach [] X.env := by rfl) (hs : starEach [.Call (.Name x p1) [ev] [] p2, .Constant (.str fld) x2 p3] X.env = (false, eval (.Call (.Name x p1) [ev] [] p2) X.env) :: starEach [.Constant (.str fld) x2 p3] X.env := by rfl) : PE X (.Tuple [.Call (.Name x p1) [ev] [] p2, .Constant (.str fld) x2 p3] x1 p4) (tPair j C fld) := by
  obtain ⟨fI, fd, ps, iC, tI, F1, hb⟩ := E.ex
  refine pe_imp (pe_tup (pa_cons (pe_mkX E.ox iC tI F1 hr hb pass0 hg E.ec.gC (pa_cons hv pa_nil he) hdb he) (pa_cons pe_str pa_nil) hs)) fun σ H Q h => ?_
  obtain ⟨v, hσ, k⟩ := h
  refine ⟨v, hσ, by show 1 ≤ 1000; decide, fun a ha => ⟨a, [v], rfl, rfl, upd_same, fun H' d hd hda keep h1 h2 => ⟨rfl, by show 2 ≤ sizeLine; decide, fun t ht => ?_⟩⟩⟩
  have s1 : Same H H' := fun b o e => by
    have hb : b ≠ a := ne_of_none e ha
    exact keep b o (by rw [upd_ne hb]; exact e) hb
  exact k t _ (s1.free ht) (s1.trans (sNew ht)) ⟨a, d, upd_same, (sNew ht) _ _ h1, (sNew ht) _ _ h2⟩
theorem pa_pnil : PA X [] (tPairs j []) := ⟨fun pos pins s σ H Q I h => by
  obtain ⟨v, hσ, k⟩ := h
  exact pa_nil.run pos pins s σ H Q I (k [] H (.refl H) trivial)⟩
theorem pa_pcons (h : PE X e (tPair j C fld)) (hr : PA X es (tPairs j l)) (hs : starEach (e :: es) X.env = (false, eval e X.env) :: starEach es X.env := by rfl) : PA X (e :: es) (tPairs j ((C, fld) :: l)) := ⟨fun pos pins s σ H Q I q => by
  obtain ⟨v, hσ, k⟩ := q
  exact (pa_cons h hr hs).run pos pins s σ H Q I ⟨v, hσ, fun t H1 _ s1 o1 => ⟨v, hσ, fun ts H2 s2 o2 => k (t :: ts) H2 (s1.trans s2) ⟨o1.same s2, o2⟩⟩⟩⟩
theorem pa_bnil : PA X [] (tBares []) := ⟨fun pos pins s σ H Q I h => pa_nil.run pos pins s σ H Q I (h [] H (.refl H) trivial)⟩
theorem pa_bcons (h : PE X e (fun σ H Q => ∀ a, H a = none → Q (.ref a) (upd H a (ExO (.ref C) a)))) (hr : PA X es (tBares lb)) (hs : starEach (e :: es) X.env = (false, eval e X.env) :: starEach es X.env := by rfl) : PA X (e :: es) (tBares (C :: lb)) := ⟨fun pos pins s σ H Q I q =>
  (pa_cons h hr hs).run pos pins s σ H Q I fun a ha ts H2 s2 o2 => q (a :: ts) H2 ((sNew ha).trans s2) ⟨s2 _ _ upd_same, o2⟩⟩
end
section
variable {P : Program} {w : World} {K : PySem.W.Frag} {mg : Str → Option Value} {base : Heap} {S : Addr} {A : Nat → Addr}
theorem ok_Field (D : DefAt K mg "_law_field" sField) : Cl P w K mg base 1 "_law_field" (spField K) := by
  refine cl_of D scField (fun vs H Q E h => ?_) (fun _ _ _ _ _ _ us hl => match us, hl with | [_, _], _ => rfl) (fun f cdv A1 outer s H vs Q E hr h => ?_)
  · obtain ⟨fld, C, a, d, fs, v, rfl, _⟩ := h
    rfl
  · obtain ⟨fld, C, a, d, fs, v, rfl, hf, hX, hno, ha, hd, hl, k⟩ := h
    refine ⟨_, pss_cons (ps_if (pt_cmpR op_eq (pv 1) pe_str (nomark _)) (pss_one (ps_ret (pe_xfV (pv 0)))) pss_nil) (pss_cons (ps_if (pt_cmpR op_eq (pv 1) pe_str (nomark _)) (pss_one (ps_ret (pe_xfV (pv 0)))) pss_nil) (pss_cons (ps_if (pt_cmpR op_eq (pv 1) pe_str (nomark _)) (pss_one (ps_ret (pe_xfV (pv 0)))) pss_nil) (pss_cons (ps_if (pt_cmpR op_eq (pv 1) pe_str (nomark _)) (pss_one (ps_ret (pe_xfV (pv 0)))) pss_nil) (pss_cons (ps_if (pt_cmpR op_eq (pv 1) pe_str (nomark _)) (pss_one (ps_ret (pe_xfV (pv 0)))) pss_nil) (pss_cons (ps_if (pt_cmpR op_eq (pv 1) pe_str (nomark _)) (pss_one (ps_ret (pe_xfV (pv 0)))) pss_nil) (pss_cons (ps_if (pt_cmpR op_eq (pv 1) pe_str (nomark _)) (pss_one (ps_ret (pe_xfV (pv 0)))) pss_nil) (pss_one (ps_ret pe_non)))))))), ?_⟩
    simp only [flds, List.mem_cons, List.not_mem_nil, or_false] at hf
    rcases hf with rfl | rfl | rfl | rfl | rfl | rfl | rfl
    · refine ⟨_, rfl, rfl, _, rfl, ?_⟩
      refine (if_pos (by decide +kernel)).mpr ?_
      exact ⟨_, rfl, C, a, d, fs, v, rfl, hX, hno, ha, hd, hl, k⟩
    · refine ⟨_, rfl, rfl, _, rfl, ?_⟩
      refine (if_neg (by decide +kernel)).mpr ?_
      refine ⟨_, rfl, rfl, _, rfl, ?_⟩
      refine (if_pos (by decide +kernel)).mpr ?_
      exact ⟨_, rfl, C, a, d, fs, v, rfl, hX, hno, ha, hd, hl, k⟩
    · refine ⟨_, rfl, rfl, _, rfl, ?_⟩
      refine (if_neg (by decide +kernel)).mpr ?_
      refine ⟨_, rfl, rfl, _, rfl, ?_⟩
      refine (if_neg (by decide +kernel)).mpr ?_
      refine ⟨_, rfl, rfl, _, rfl, ?_⟩
      refine (if_pos (by decide +kernel)).mpr ?_
      exact ⟨_, rfl, C, a, d, fs, v, rfl, hX, hno, ha, hd, hl, k⟩
    · refine ⟨_, rfl, rfl, _, rfl, ?_⟩
      refine (if_neg (by decide +kernel)).mpr ?_
      refine ⟨_, rfl, rfl, _, rfl, ?_⟩
      refine (if_neg (by decide +kernel)).mpr ?_
      refine ⟨_, rfl, rfl, _, rfl, ?_⟩
      refine (if_neg (by decide +kernel)).mpr ?_
      refine ⟨_, rfl, rfl, _, rfl, ?_⟩
      refine (if_pos (by decide +kernel)).mpr ?_
      exact ⟨_, rfl, C, a, d, fs, v, rfl, hX, hno, ha, hd, hl, k⟩
    · refine ⟨_, rfl, rfl, _, rfl, ?_⟩
      refine (if_neg (by decide +kernel)).mpr ?_
      refine ⟨_, rfl, rfl, _, rfl, ?_⟩
      refine (if_neg (by decide +kernel)).mpr ?_
      refine ⟨_, rfl, rfl, _, rfl, ?_⟩
      refine (if_neg (by decide +kernel)).mpr ?_
      refine ⟨_, rfl, rfl, _, rfl, ?_⟩
      refine (if_neg (by decide +kernel)).mpr ?_
      refine ⟨_, rfl, rfl, _, rfl, ?_⟩
      refine (if_pos (by decide +kernel)).mpr ?_
      exact ⟨_, rfl, C, a, d, fs, v, rfl, hX, hno, ha, hd, hl, k⟩
    · refine ⟨_, rfl, rfl, _, rfl, ?_⟩
      refine (if_neg (by decide +kernel)).mpr ?_
      refine ⟨_, rfl, rfl, _, rfl, ?_⟩
      refine (if_neg (by decide +kernel)).mpr ?_
      refine ⟨_, rfl, rfl, _, rfl, ?_⟩
      refine (if_neg (by decide +kernel)).mpr ?_
      refine ⟨_, rfl, rfl, _, rfl, ?_⟩
      refine (if_neg (by decide +kernel)).mpr ?_
      refine ⟨_, rfl, rfl, _, rfl, ?_⟩
      refine (if_neg (by decide +kernel)).mpr ?_
      refine ⟨_, rfl, rfl, _, rfl, ?_⟩
      refine (if_pos (by decide +kernel)).mpr ?_
      exact ⟨_, rfl, C, a, d, fs, v, rfl, hX, hno, ha, hd, hl, k⟩
    · refine ⟨_, rfl, rfl, _, rfl, ?_⟩
      refine (if_neg (by decide +kernel)).mpr ?_
      refine ⟨_, rfl, rfl, _, rfl, ?_⟩
      refine (if_neg (by decide +kernel)).mpr ?_
      refine ⟨_, rfl, rfl, _, rfl, ?_⟩
      refine (if_neg (by decide +kernel)).mpr ?_
      refine ⟨_, rfl, rfl, _, rfl, ?_⟩
      refine (if_neg (by decide +kernel)).mpr ?_
      refine ⟨_, rfl, rfl, _, rfl, ?_⟩
      refine (if_neg (by decide +kernel)).mpr ?_
      refine ⟨_, rfl, rfl, _, rfl, ?_⟩
      refine (if_neg (by decide +kernel)).mpr ?_
      refine ⟨_, rfl, rfl, _, rfl, ?_⟩
      refine (if_pos (by decide +kernel)).mpr ?_
      exact ⟨_, rfl, C, a, d, fs, v, rfl, hX, hno, ha, hd, hl, k⟩
def pairsL (A : Nat → Addr) : List (Addr × Str) := [(A 1, "what"), (A 3, "place"), (A 5, "name"), (A 6, "key"), (A 7, "key"), (A 8, "name"), (A 10, "index"), (A 11, "index"), (A 12, "place"), (A 13, "index"), (A 14, "number"), (A 15, "index"), (A 16, "name"), (A 17, "what"), (A 18, "name"), (A 23, "numbers")]
def baresL (A : Nat → Addr) : List Addr := [A 9, A 19, A 20, A 21, A 22]
/-- a triple (an exception, its field or None, what the field is) -/
def Trip (K : PySem.W.Frag) (A : Nat → Addr) (H : Hp) (v : V) (t : Addr) : Prop := ∃ (x : V) (i : Nat) (fs : List (Str × V)), i < 24 ∧ IsX H (A i) x fs ∧ (H t = some (.tup [x, .non, .non]) ∨
  ∃ a d fld, x = .ref a ∧ fld ∈ flds ∧ PySem.W.findIn K (.ref (A i)) fld = some none ∧ H a = some (exo a (A i) (some d)) ∧ H d = some (exd d fs) ∧ fs.lookup fld = some v ∧ H t = some (.tup [x, .str fld, v]))
theorem Trip.same {H H' : Hp} {v : V} {t : Addr} (h : Trip K A H v t) (s : Same H H') : Trip K A H' v t := by
  obtain ⟨x, i, fs, hi, hx, h⟩ := h
  refine ⟨x, i, fs, hi, hx.same s, ?_⟩
  rcases h with h | ⟨a, d, fld, e, h1, h2, h3, h4, h5, h6⟩
  · exact .inl (s _ _ h)
  · exact .inr ⟨a, d, fld, e, h1, h2, s _ _ h3, s _ _ h4, h5, s _ _ h6⟩
def spSingle (K : PySem.W.Frag) (A : Nat → Addr) : Sp := fun vs H Q _ => ∃ (u v : V), vs = [u, v] ∧ ∀ (q : Addr) (ts : List Addr) (H' : Hp), H q = none → Same H H' → H' q = some (.lst (ts.map V.ref)) → ts.length = 21 → (∀ t ∈ ts, Trip K A H' v t) → Q (.ref q) H'
abbrev VEs : List Value := [.type "ValueError", .type "Exception", .type "BaseException", .type "object"]
theorem pairs_idx {A : Nat → Addr} {c : Addr × Str} (h : c ∈ pairsL A) : ∃ i, i < 24 ∧ c.1 = A i ∧ c.2 ∈ flds := by
  simp only [pairsL, List.mem_cons, List.not_mem_nil, or_false] at h
  rcases h with rfl | rfl | rfl | rfl | rfl | rfl | rfl | rfl | rfl | rfl | rfl | rfl | rfl | rfl | rfl | rfl
  · exact ⟨1, by decide, rfl, by simp [flds]⟩
  · exact ⟨3, by decide, rfl, by simp [flds]⟩
  · exact ⟨5, by decide, rfl, by simp [flds]⟩
  · exact ⟨6, by decide, rfl, by simp [flds]⟩
  · exact ⟨7, by decide, rfl, by simp [flds]⟩
  · exact ⟨8, by decide, rfl, by simp [flds]⟩
  · exact ⟨10, by decide, rfl, by simp [flds]⟩
  · exact ⟨11, by decide, rfl, by simp [flds]⟩
  · exact ⟨12, by decide, rfl, by simp [flds]⟩
  · exact ⟨13, by decide, rfl, by simp [flds]⟩
  · exact ⟨14, by decide, rfl, by simp [flds]⟩
  · exact ⟨15, by decide, rfl, by simp [flds]⟩
  · exact ⟨16, by decide, rfl, by simp [flds]⟩
  · exact ⟨17, by decide, rfl, by simp [flds]⟩
  · exact ⟨18, by decide, rfl, by simp [flds]⟩
  · exact ⟨23, by decide, rfl, by simp [flds]⟩
theorem bares_idx {A : Nat → Addr} {c : Addr} (h : c ∈ baresL A) : ∃ i, i < 24 ∧ c = A i := by
  simp only [baresL, List.mem_cons, List.not_mem_nil, or_false] at h
  rcases h with rfl | rfl | rfl | rfl | rfl
  · exact ⟨9, by decide, rfl⟩
  · exact ⟨19, by decide, rfl⟩
  · exact ⟨20, by decide, rfl⟩
  · exact ⟨21, by decide, rfl⟩
  · exact ⟨22, by decide, rfl⟩
theorem ref_at {ts : List Addr} {j : Nat} {y : V} (h : (ts.map V.ref)[j]? = some y) : ∃ t, t ∈ ts ∧ y = .ref t := by
  rw [List.getElem?_map] at h
  cases e : ts[j]? with
  | none => rw [e] at h; cases h
  | some t =>
    rw [e] at h
    exact ⟨t, List.mem_of_getElem? e, (Option.some.inj h).symm⟩
theorem lookup_one {f : Str} {v : V} : List.lookup f [(f, v)] = some v := by simp [List.lookup]
/-- a list at D is filled with triples -/
def Fill (K : PySem.W.Frag) (A : Nat → Addr) (v : V) (B : Hp) (D : Addr) (j : Nat) (G : Hp) : Prop := ∃ (F : Hp) (us : List Addr), F D = none ∧ Same B F ∧ Same F G ∧ us.length = j ∧ G D = some (.lst (us.map V.ref)) ∧ ∀ t ∈ us, Trip K A F v t
theorem Fill.start {K : PySem.W.Frag} {A : Nat → Addr} {v : V} {B : Hp} {D : Addr} (h : B D = none) : Fill K A v B D 0 (upd B D (.lst [])) := ⟨B, [], h, .refl B, sNew h, rfl, upd_same, fun t h => nomatch h⟩
theorem Fill.step {K : PySem.W.Frag} {A : Nat → Addr} {v : V} {B G : Hp} {D t : Addr} {j : Nat} {o : HO} (h : Fill K A v B D j G) (ht : G t = none) (hj : j ≤ 100) (n : ∀ F, Same B F → F t = none → Trip K A (upd F t o) v t) :
    ∃ acc, upd G t o D = some (.lst acc) ∧ acc.length < sizeLine ∧ Fill K A v B D (j + 1) (upd (upd G t o) D (.lst (acc ++ [.ref t]))) := by
  obtain ⟨F, us, h1, h2, h3, h4, h5, h6⟩ := h
  have nt : D ≠ t := ne_of_none h5 ht
  have ft : F t = none := h3.free ht
  refine ⟨us.map V.ref, by rw [upd_ne nt]; exact h5, by rw [List.length_map]; exact small1000 (by omega), upd F t o, us ++ [t], by rw [upd_ne nt]; exact h1, h2.trans (sNew ft), ?_, by rw [List.length_append, h4]; rfl, ?_, fun u hu => ?_⟩
  · have e : Same (upd F t o) (upd G t o) := fun b u e => by
      by_cases hb : b = t
      · rw [hb] at e ⊢
        rw [upd_same] at e ⊢
        exact e
      · rw [upd_ne hb] at e ⊢
        exact h3 b u e
    exact sPut e (by rw [upd_ne nt]; exact h1)
  · rw [upd_same, List.map_append]
    rfl
  · rcases List.mem_append.mp hu with e | e
    · exact (h6 u e).same (sNew ft)
    · rw [List.mem_singleton.mp e]
      exact n F h2 ft
theorem ok_Single (D : DefAt K mg "_law_single" sSingle) (CX : ClsX K mg S A) (nf : ∀ p ∈ pairsL A, PySem.W.findIn K (.ref p.1) p.2 = some none) (e1 : Ei P w K mg base S (A 1) "BadWord" ["what"]) (e3 : Ei P w K mg base S (A 3) "BadBytes" ["place"]) (e5 : Ei P w K mg base S (A 5) "NoField" ["name"]) (e6 : Ei P w K mg base S (A 6) "NoPaper" ["key"]) (e7 : Ei P w K mg base S (A 7) "TakenKey" ["key"]) (e8 : Ei P w K mg base S (A 8) "Broken" ["name"]) (e10 : Ei P w K mg base S (A 10) "NotAscending" ["index"]) (e11 : Ei P w K mg base S (A 11) "BadOutput" ["index"]) (e12 : Ei P w K mg base S (A 12) "NoPlace" ["place"]) (e13 : Ei P w K mg base S (A 13) "BadRows" ["index"]) (e14 : Ei P w K mg base S (A 14) "BadLength" ["number"]) (e15 : Ei P w K mg base S (A 15) "NoBlock" ["index"]) (e16 : Ei P w K mg base S (A 16) "NoFile" ["name"]) (e17 : Ei P w K mg base S (A 17) "BadCrash" ["what"]) (e18 : Ei P w K mg base S (A 18) "TornFile" ["name"]) (e23 : Ei P w K mg base S (A 23) "BadScoring" ["numbers"]) (x9 : PySem.W.excIn K (A 9) VEs "ValueError.__new__" = true) (x19 : PySem.W.excIn K (A 19) VEs "ValueError.__new__" = true) (x20 : PySem.W.excIn K (A 20) VEs "ValueError.__new__" = true) (x21 : PySem.W.excIn K (A 21) VEs "ValueError.__new__" = true) (x22 : PySem.W.excIn K (A 22) VEs "ValueError.__new__" = true) : Cl P w K mg base 3 "_law_single" (spSingle K A) := by
  refine cl_of D scSingle (fun vs H Q E h => ?_) (fun _ _ _ _ _ _ us hl => match us, hl with | [_, _], _ => rfl) (fun f cdv A1 outer s H vs Q E hr h => ?_)
  · obtain ⟨u, v, rfl, _⟩ := h
    rfl
  · obtain ⟨u, v, rfl, k⟩ := h
    refine ⟨_, pss_cons (ps_set (i := 2) scSingle.nd rfl (Or.inl rfl) (pe_lst (pa_pcons (pe_pair e1 hr rfl (pv 1)) (pa_pcons (pe_pair e3 hr rfl (pv 1)) (pa_pcons (pe_pair e5 hr rfl (pv 1)) (pa_pcons (pe_pair e6 hr rfl (pv 1)) (pa_pcons (pe_pair e7 hr rfl (pv 1)) (pa_pcons (pe_pair e8 hr rfl (pv 1)) (pa_pcons (pe_pair e10 hr rfl (pv 1)) (pa_pcons (pe_pair e11 hr rfl (pv 1)) (pa_pcons (pe_pair e12 hr rfl (pv 1)) (pa_pcons (pe_pair e13 hr rfl (pv 1)) (pa_pcons (pe_pair e14 hr rfl (pv 1)) (pa_pcons (pe_pair e15 hr rfl (pv 1)) (pa_pcons (pe_pair e16 hr rfl (pv 1)) (pa_pcons (pe_pair e17 hr rfl (pv 1)) (pa_pcons (pe_pair e18 hr rfl (pv 1)) (pa_pcons (pe_pair e23 hr rfl (pv 1)) pa_pnil))))))))))))))))))
(pss_cons (ps_setLc (i := 3) (own := [("_law_e", 4), ("_law_field_here", 5)]) (g := gTup K 2 (gCons (gName 4) (gCons (gName 5) gNil))) (tt := tYes) (by rfl) scSingle.nd rfl rfl (sw_true rfl rfl rfl (by decide +kernel)) (pi_list (pv 2)) (blkOk_by (own := [("_law_e", 4), ("_law_field_here", 5)]) (N := NSingle) (sc := defScope sSingle) (by decide +kernel)) (fun _ _ _ _ _ => (pg_tup (by rfl) (pgs_cons (pg_name (i := 4) scSingle.nd rfl (Or.inl rfl)) (pgs_cons (pg_name (i := 5) scSingle.nd rfl (Or.inl rfl)) pgs_nil)))) (fun _ _ _ _ _ => pts_nil) (fun _ _ _ _ _ => (pe_tup (pa_cons (pv 4) (pa_cons (pv 5) (pa_cons (pv 1) pa_nil))))))
(pss_one (ps_ret (pe_op op_cat (pv 3) (pe_lc (own := [("_law_e", 4)]) (g := gName 4) (tt := tYes) (by rfl) scSingle.nd (pi_list (pe_lst (pa_bcons (pe_mkX0 F.excBase_ValueError (x9) (by exact (CX.ec 9 (by decide)).gC) ((CX.ec 9 (by decide)).kC) rfl) (pa_bcons (pe_mkX0 F.excBase_ValueError (x19) (by exact (CX.ec 19 (by decide)).gC) ((CX.ec 19 (by decide)).kC) rfl) (pa_bcons (pe_mkX0 F.excBase_ValueError (x20) (by exact (CX.ec 20 (by decide)).gC) ((CX.ec 20 (by decide)).kC) rfl) (pa_bcons (pe_mkX0 F.excBase_ValueError (x21) (by exact (CX.ec 21 (by decide)).gC) ((CX.ec 21 (by decide)).kC) rfl) (pa_bcons (pe_mkX0 F.excBase_ValueError (x22) (by exact (CX.ec 22 (by decide)).gC) ((CX.ec 22 (by decide)).kC) rfl) pa_bnil))))))) (blkOk_by (own := [("_law_e", 4)]) (N := NSingle) (sc := defScope sSingle) (by decide +kernel)) (fun _ _ _ _ _ => (pg_name (i := 4) scSingle.nd rfl (Or.inl rfl))) (fun _ _ _ _ _ => pts_nil) (fun _ _ _ _ _ => (pe_tup (pa_cons (pv 4) (pa_cons pe_non (pa_cons pe_non pa_nil)))))))))), ?_⟩
    refine ⟨v, rfl, fun ts H1 s1 hall => ?_⟩
    have hl := hall.len
    refine ⟨by rw [List.length_map, hl]; show 16 ≤ sizeLine; decide, fun q hq => ?_⟩
    have s2 := s1.trans (sNew (o := .lst (ts.map V.ref)) hq)
    refine ⟨_, rfl, q, rfl, ⟨_, .inl (.inl upd_same)⟩, fun D hD => ?_⟩
    refine lc_list (K := K) (a := q) (xs := ts.map V.ref) (fun j G => j ≤ 16 ∧ Fill K A v (upd H1 q (.lst (ts.map V.ref))) D j G) ⟨by decide, Fill.start hD⟩ (fun j G _ ⟨_, F, us, h1, h2, h3, _⟩ => .inl (.inl (h3 _ _ (h2 _ _ upd_same)))) ?_ ?_
    · rintro j y G hj ⟨hj16, hF⟩
      obtain ⟨t, ht, rfl⟩ := ref_at hj
      have hj16 : j < 16 := by
        have : j < (ts.map V.ref).length := (List.getElem?_eq_some_iff.mp hj).1
        rw [List.length_map, hl] at this
        exact this
      obtain ⟨c, hc, hp⟩ := hall.at ht
      obtain ⟨i, hi, e1, e2⟩ := pairs_idx hc
      have hno := nf c hc
      obtain ⟨C, fld⟩ := c
      simp only at e1 e2 hp hno
      subst e1
      obtain ⟨a, d, p1, p2, p3⟩ := hp.same (sNew hq)
      obtain ⟨F, us, h1, h2, h3, _⟩ := id hF
      refine ⟨t, _, rfl, .inl (.inl (h3 _ _ (h2 _ _ p1))), rfl, _, _, rfl, _, _, rfl, rfl, rfl, ?_⟩
      simp only [tYes, if_true]
      refine ⟨_, rfl, _, rfl, _, rfl, by show 3 ≤ sizeLine; decide, fun t2 ht2 => ?_⟩
      obtain ⟨acc, g1, g2, g3⟩ := hF.step (o := .tup [.ref a, .str fld, v]) ht2 (by omega) (fun F2 sF n2 => by
        have s5 := sNew (o := .tup [.ref a, .str fld, v]) n2
        have x1 := s5 _ _ (sF _ _ p2)
        have x2 := s5 _ _ (sF _ _ p3)
        exact ⟨.ref a, i, _, hi, .dict x1 x2, .inr ⟨a, d, fld, rfl, e2, hno, x1, x2, lookup_one, upd_same⟩⟩)
      exact ⟨acc, g1, g2, by omega, g3⟩
    · rintro G ⟨_, F, us, h1, h2, h3, h4, h5, h6⟩
      rw [List.length_map, hl] at h4
      have sG := s2.trans (h2.trans h3)
      have hDH : H D = none := (s2.trans h2).free h1
      refine ⟨_, rfl, fun bs G2 sb hb => ?_⟩
      have hlb := hb.len
      refine ⟨by rw [List.length_map, hlb]; show 5 ≤ sizeLine; decide, fun q2 hq2 => ⟨q2, rfl, ⟨_, .inl (.inl upd_same)⟩, fun D2 hD2 => ?_⟩⟩
      have s6 := sb.trans (sNew (o := .lst (bs.map V.ref)) hq2)
      refine lc_list (K := K) (a := q2) (xs := bs.map V.ref) (fun j G => j ≤ 5 ∧ Fill K A v (upd G2 q2 (.lst (bs.map V.ref))) D2 j G) ⟨by decide, Fill.start hD2⟩ (fun j G _ ⟨_, F, us, h1, h2, h3, _⟩ => .inl (.inl (h3 _ _ (h2 _ _ upd_same)))) ?_ ?_
      · rintro j y G3 hj ⟨hj5, hF⟩
        obtain ⟨t, ht, rfl⟩ := ref_at hj
        have hj5 : j < 5 := by
          have : j < (bs.map V.ref).length := (List.getElem?_eq_some_iff.mp hj).1
          rw [List.length_map, hlb] at this
          exact this
        obtain ⟨c, hc, hp⟩ := hb.at ht
        obtain ⟨i, hi, rfl⟩ := bares_idx hc
        refine ⟨rfl, ?_⟩
        simp only [tYes, if_true]
        refine ⟨_, rfl, by show 3 ≤ sizeLine; decide, fun t2 ht2 => ?_⟩
        obtain ⟨acc, g1, g2, g3⟩ := hF.step (o := .tup [.ref t, .non, .non]) ht2 (by omega) (fun F2 sF n2 => by
          have s5 := sNew (o := .tup [.ref t, .non, .non]) n2
          exact ⟨.ref t, i, [], hi, .bare (s5 _ _ (sF _ _ ((sNew hq2) _ _ hp))), .inl upd_same⟩)
        exact ⟨acc, g1, g2, by omega, g3⟩
      · rintro G3 ⟨_, F2, us2, g1, g2, g3, g4, g5, g6⟩
        rw [List.length_map, hlb] at g4
        have sF := s6.trans (g2.trans g3)
        refine ⟨D, D2, _, _, rfl, rfl, sF _ _ h5, g5, by rw [List.length_map, List.length_map, h4, g4]; show 16 + 5 ≤ sizeLine; decide, fun p hp => ?_⟩
        have sAll := sG.trans sF
        refine k p (us ++ us2) _ (sAll.free hp) (sAll.trans (sNew hp)) (by rw [List.map_append]; exact upd_same) (by rw [List.length_append, h4, g4]; rfl) fun t ht => ?_
        rcases List.mem_append.mp ht with e | e
        · exact (h6 t e).same (h3.trans (sF.trans (sNew hp)))
        · exact (g6 t e).same (g3.trans (sNew hp))
end
end Wq
set_option maxRecDepth 100000
namespace Wq
open PySem PySem.Spec PyProof.Rows L2
def alls : Nat → List (List Nat)
  | 0 => [[]]
  | n + 1 => [[]] ++ (alls n).flatMap fun l => [97 :: l, 32 :: l, 10 :: l]
/-- texts of up to six signs a, blank, newline: split, joined, counted -/
def NL1 : Str := "\n"
def okT (l : List Nat) : Bool :=
  let x : Str := ⟨l.toArray⟩
  let ps := Txt.split x NL1
  Txt.join NL1 ps == x && decide (ps.length = Txt.count x NL1 + 1) && ps.all (fun p => !decide (10 ∈ p.cps.toList)) && decide (ps.length ≤ 200) && decide ((ps.map (·.length)).sum + ps.length * NL1.length ≤ 16777216) && (Txt.join "" (l.map fun c => (⟨#[c]⟩ : Str)) == x)
theorem okT_all : (alls 6).all okT = true := by decide +kernel
theorem mem_alls : ∀ (n : Nat) (l : List Nat), l.length ≤ n → (∀ c ∈ l, c = 97 ∨ c = 32 ∨ c = 10) → l ∈ alls n
  | 0, [], _, _ => List.mem_cons_self
  | n + 1, [], _, _ => List.mem_append_left _ List.mem_cons_self
  | n + 1, c :: l, h, hc => by
    refine List.mem_append_right _ (List.mem_flatMap.mpr ⟨l, mem_alls n l (Nat.le_of_succ_le_succ h) fun d hd => hc d (List.mem_cons_of_mem _ hd), ?_⟩)
    rcases hc c List.mem_cons_self with rfl | rfl | rfl
    · exact List.mem_cons_self
    · exact List.mem_cons_of_mem _ List.mem_cons_self
    · exact List.mem_cons_of_mem _ (List.mem_cons_of_mem _ List.mem_cons_self)
structure OkT (l : List Nat) : Prop where
  jn : Txt.join "\n" (Txt.split ⟨l.toArray⟩ "\n") = ⟨l.toArray⟩
  ct : (Txt.split ⟨l.toArray⟩ "\n").length = Txt.count ⟨l.toArray⟩ "\n" + 1
  no : ∀ p ∈ Txt.split ⟨l.toArray⟩ "\n", decide (10 ∈ p.cps.toList) = false
  le : (Txt.split ⟨l.toArray⟩ "\n").length ≤ 200
  sz : ((Txt.split ⟨l.toArray⟩ "\n").map (·.length)).sum + (Txt.split ⟨l.toArray⟩ "\n").length * ("\n" : Str).length ≤ 16777216
  jo : Txt.join "" (l.map fun c => (⟨#[c]⟩ : Str)) = ⟨l.toArray⟩
theorem OkT.of {l : List Nat} (h : l.length ≤ 6) (hc : ∀ c ∈ l, c = 97 ∨ c = 32 ∨ c = 10) : OkT l := by
  have e := List.all_eq_true.mp okT_all l (mem_alls 6 l h hc)
  unfold okT at e
  simp only [Bool.and_eq_true, beq_iff_eq, decide_eq_true_eq, List.all_eq_true] at e
  obtain ⟨⟨⟨⟨⟨e1, e2⟩, e3⟩, e4⟩, e5⟩, e6⟩ := e
  exact ⟨e1, e2, fun p hp => by simpa using e3 p hp, e4, e5, e6⟩
end Wq
set_option Elab.async false
set_option linter.all false
set_option maxRecDepth 100000
set_option maxHeartbeats 4000000
namespace Wq
open PySem PySem.Spec PyProof.Rows L2
theorem textFrom_up {B : Nat} : ∀ (ts : List Str) (k : Nat) (acc : Str), (∀ t ∈ ts, t.length ≤ B) → (textFrom k acc ts).length ≤ acc.length + ts.length * (B + 2)
  | [], k, acc, _ => by
    show acc.length ≤ acc.length + 0 * (B + 2)
    omega
  | t :: r, k, acc, h => by
    have e : (acc ++ (if k > 0 then ", " else "" : String) ++ t).length = acc.length + (if k > 0 then 2 else 0) + t.length := by
      rw [strLen_append, strLen_append]
      split <;> rfl
    have i : (if k > 0 then 2 else 0 : Nat) ≤ 2 := by split <;> omega
    have h1 := textFrom_up r (k + 1) (acc ++ (if k > 0 then ", " else "" : String) ++ t) fun u hu => h u (List.mem_cons_of_mem _ hu)
    have h2 := h t List.mem_cons_self
    rw [e] at h1
    show (textFrom (k + 1) _ r).length ≤ acc.length + (r.length + 1) * (B + 2)
    have e3 : (r.length + 1) * (B + 2) = r.length * (B + 2) + (B + 2) := Nat.succ_mul _ _
    omega
theorem listText_up {B : Nat} {ts : List Str} (h : ∀ t ∈ ts, t.length ≤ B) : (listText ts).length ≤ 2 + ts.length * (B + 2) := by
  have e := textFrom_up ts 0 ("[" : Str) h
  unfold listText
  rw [strLen_append]
  have e1 : ("[" : Str).length = 1 := rfl
  have e2 : ("]" : Str).length = 1 := rfl
  rw [e1] at e
  rw [e2]
  omega
/-- what can be shown, in few signs -/
structure ShB (d : PyData) : Prop where
  sh : d.showable = true
  dp : d.depth ≤ 1
  ln : d.shown.length ≤ 700
theorem rep_ln {x : Str} (h : x.cps.size ≤ 60) (hc : ∀ c ∈ x.cps.toList, c < 128) : (reprText x).length ≤ 602 := by
  have e := StrLaws.reprText_len x (fun c hx => Nat.lt_of_lt_of_le (hc c hx) (by decide))
  have e2 : x.length = x.cps.size := rfl
  omega
theorem OV.shb {K : PySem.W.Frag} {H : Hp} {v : V} {d : PyData} {t : String} (h : OV K H v d t) : ShB d := by
  cases h with
  | non => exact ⟨rfl, by decide, by show ("None" : Str).length ≤ 700; decide +kernel⟩
  | bl b => cases b <;> exact ⟨rfl, by decide, by decide +kernel⟩
  | int i h =>
    refine ⟨?_, by show 0 ≤ 1; decide, ?_⟩
    · show decide (i.natAbs.log2 < 1920) = true
      refine decide_eq_true ?_
      by_cases h0 : i.natAbs = 0
      · rw [h0]; decide
      · exact (Nat.log2_lt h0).mpr (Nat.lt_trans h (by decide +kernel))
    · have e := int_text_length_le10 (k := 3) (by decide) h
      show (Str.ofString (toString i)).length ≤ 700
      rw [PySem.ofString_length]
      omega
  | str x h1 h2 => exact ⟨rfl, by show 0 ≤ 1; decide, Nat.le_trans (rep_ln h1 h2) (by decide)⟩
  | @lst a x h1 h2 h3 h4 =>
    refine ⟨rfl, by show max 0 0 + 1 ≤ 1; decide, ?_⟩
    show (listText [reprText x]).length ≤ 700
    exact Nat.le_trans (listText_up (B := 602) fun t ht => by rw [List.mem_singleton.mp ht]; exact rep_ln h3 h4) (show 2 + 1 * (602 + 2) ≤ 700 by decide)
  | @tup a x h1 h3 h4 =>
    refine ⟨rfl, by show max 0 0 + 1 ≤ 1; decide, ?_⟩
    show (("(" : Str) ++ Str.join ", " [reprText x] ++ (",)" : Str)).length ≤ 700
    rw [strLen_append, strLen_append]
    have e : (Str.join ", " [reprText x]).length = (reprText x).length := by
      show (Str.join ", " [reprText x]).cps.size = _
      simp [Str.join, Str.length]
    rw [e]
    have := rep_ln h3 h4
    show 1 + _ + 2 ≤ 700
    omega
  | emp h1 => exact ⟨rfl, by decide, by decide +kernel⟩
theorem OV.shw {K : PySem.W.Frag} {H : Hp} {v : V} {d : PyData} {t : String} (h : OV K H v d t) : Sh K H v d := by
  cases h with
  | non => exact .non
  | bl b => exact .bl b
  | int i h => exact .int i
  | str x h1 h2 => exact .str x
  | lst h1 h2 h3 h4 => exact .lst (.inl (.inl h1)) h2 (.cons (.str _) .nil)
  | tup h1 h2 h3 => exact .tup (.inl (.inl h1)) (.cons (.str _) .nil)
  | emp h1 => exact .emp h1
/-- the list of seven -/
def d7 (d1 d2 : PyData) (i : Int) : PyData := .list [d1, d2, d1, d2, d1, d2, .int i]
theorem d7_sh {d1 d2 : PyData} {i : Int} (h1 : ShB d1) (h2 : ShB d2) (hi : i.natAbs < 1000) : (d7 d1 d2 i).showable = true ∧ (d7 d1 d2 i).depth ≤ 60 ∧ (d7 d1 d2 i).shown.length ≤ sizeLine := by
  have h3 := (OV.int (K := []) (H := fun _ => none) i hi).shb
  refine ⟨?_, ?_, ?_⟩
  · show (d1.showable && (d2.showable && (d1.showable && (d2.showable && (d1.showable && (d2.showable && ((PyData.int i).showable && true))))))) = true
    rw [h1.sh, h2.sh, h3.sh]
    rfl
  · show max d1.depth (max d2.depth (max d1.depth (max d2.depth (max d1.depth (max d2.depth (max (PyData.int i).depth 0)))))) + 1 ≤ 60
    have := h1.dp
    have := h2.dp
    have := h3.dp
    omega
  · show (listText [d1.shown, d2.shown, d1.shown, d2.shown, d1.shown, d2.shown, (PyData.int i).shown]).length ≤ sizeLine
    refine Nat.le_trans (listText_up (B := 700) fun t ht => ?_) (show 2 + 7 * (700 + 2) ≤ sizeLine by rw [sizeLine_eq]; decide)
    simp only [List.mem_cons, List.not_mem_nil, or_false] at ht
    rcases ht with rfl | rfl | rfl | rfl | rfl | rfl | rfl
    · exact h1.ln
    · exact h2.ln
    · exact h1.ln
    · exact h2.ln
    · exact h1.ln
    · exact h2.ln
    · exact h3.ln
end Wq
set_option Elab.async false
set_option linter.all false
set_option maxRecDepth 100000
set_option maxHeartbeats 8000000
namespace Wq
open PySem PySem.Spec PyProof.Rows L2
abbrev sLaw : Stmt := top 49
abbrev NLaw : List Str := ["_law_script", "_law_pen_here", "_law_turn", "_law_value", "_law_other", "_law_rows", "_law_later", "_law_e", "_law_field_here", "_law_due", "_law_e0", "_law_e1", "_law_e2", "_law_told", "_law_text", "_law_lines", "_law_sign", "_law_odd", "_law_k", "_law_line"]
theorem scLaw : FnScope NLaw ["_law_script"] (defScope sLaw) := ⟨rfl, rfl, rfl, by decide +kernel, rfl, by decide +kernel, by decide +kernel⟩
def spLaw (K : PySem.W.Frag) : Sp := fun vs H Q _ => ∃ (a : Addr) (ns : List Int), vs = [.ref a] ∧ SqL K H a (ns.map V.int) ∧ ∀ H', Q (.bl true) H'
structure ClL (P : Program) (w : World) (K : PySem.W.Frag) (mg : Str → Option Value) (base : Heap) (A : Nat → Addr) : Prop where
  pen : Cl P w K mg base 1 "_law_pen" (spPen K)
  draw : Cl P w K mg base 1 "_law_draw" (spDraw K)
  pick : Cl P w K mg base 2 "_law_pick" (spPick K)
  odd : Cl P w K mg base 3 "_law_odd_value" (spOddV K)
  single : Cl P w K mg base 3 "_law_single" (spSingle K A)
  cls : Cl P w K mg base 1 "_law_classes_of" (spCls A)
  field : Cl P w K mg base 1 "_law_field" (spField K)
  told : Cl P w K mg base 4 "_law_are_told" (spTold K)
  lines : Cl P w K mg base 1 "lines_of" spLines
  all : Cl P w K mg base 1 "all_signs" (fun vs H Q _ => vs = [] ∧ Q (.str SG) H)
  own : Cl P w K mg base 1 "_law_own_signs" (fun vs H Q _ => vs = [] ∧ Q (.str SG) H)
  sign : Cl P w K mg base 1 "is_sign" (spF K fSign)
theorem lkA1 {v u : V} : List.lookup ("line" : Str) ((([("line" : Str), "column"] : List Str).zip [v, u]).reverse) = some v := by rfl
theorem lkA2 {v u : V} : List.lookup ("column" : Str) ((([("line" : Str), "column"] : List Str).zip [v, u]).reverse) = some u := by rfl
theorem lkB1 {v u : V} : List.lookup ("what" : Str) ((([("what" : Str), "number"] : List Str).zip [v, u]).reverse) = some v := by rfl
theorem lkB2 {v u : V} : List.lookup ("number" : Str) ((([("what" : Str), "number"] : List Str).zip [v, u]).reverse) = some u := by rfl
theorem lkC1 {v u z : V} : List.lookup ("what" : Str) ((([("what" : Str), "many", "limit"] : List Str).zip [v, u, z]).reverse) = some v := by rfl
theorem lkC2 {v u z : V} : List.lookup ("many" : Str) ((([("what" : Str), "many", "limit"] : List Str).zip [v, u, z]).reverse) = some u := by rfl
theorem lkC3 {v u z : V} : List.lookup ("limit" : Str) ((([("what" : Str), "many", "limit"] : List Str).zip [v, u, z]).reverse) = some z := by rfl
/-- an exception of the class at C with fields -/
def XAt (H : Hp) (C b : Addr) (fs : List (Str × V)) : Prop := ∃ d, H b = some (exo b C (some d)) ∧ H d = some (exd d fs)
theorem XAt.same {H H' : Hp} {C b : Addr} {fs : List (Str × V)} (h : XAt H C b fs) (s : Same H H') : XAt H' C b fs := by
  obtain ⟨d, h1, h2⟩ := h
  exact ⟨d, s _ _ h1, s _ _ h2⟩
theorem XAt.is {H : Hp} {C b : Addr} {fs : List (Str × V)} (h : XAt H C b fs) : IsX H C (.ref b) fs := by
  obtain ⟨d, h1, h2⟩ := h
  exact .dict h1 h2
theorem same_mk {C b : Addr} {H H' : Hp} (hb : H b = none) (hk : ∀ x o, upd H b (exo b C none) x = some o → x ≠ b → H' x = some o) : Same H H' := fun x o e => by
  have n : x ≠ b := ne_of_none e hb
  exact hk x o (by rw [upd_ne n]; exact e) n
theorem dp_ones {K : PySem.W.Frag} {H : Hp} {a : Addr} {n : Nat} (h : H a = some (.lst (List.replicate n (V.int 1)))) : Dp K H (.ref a) (.list (List.replicate n (.int 1))) := by
  refine .lst (.inl (.inl h)) ?_
  clear h
  induction n with
  | zero => exact .nil
  | succ n ih => exact .cons (.int 1) ih
theorem ones3 : PyData.eqv (.list (List.replicate 3 (.int 1))) (.list (List.replicate 3 (.int 1))) = true := by rfl
theorem dp_nil {K : PySem.W.Frag} {H : Hp} {a : Addr} (h : H a = some (.lst [])) : Dp K H (.ref a) (.list []) := .lst (.inl (.inl h)) .nil
theorem fSign_in {c : Nat} (h : c ∈ SG.cps.toList) : fSign (.str ⟨#[c]⟩) = true := by
  show (decide ((1 : Nat) = 1) && allIn SG ⟨#[c]⟩) = true
  unfold allIn
  simpa using h
theorem ones_sum : ∀ cs : List Nat, ((cs.map fun c => (⟨#[c]⟩ : Str)).map (·.length)).sum = cs.length
  | [] => rfl
  | c :: cs => by
    show 1 + ((cs.map fun c => (⟨#[c]⟩ : Str)).map (·.length)).sum = cs.length + 1
    rw [ones_sum cs]
    omega
theorem SG_128 : ∀ c ∈ SG.cps.toList, c < 128 := by decide +kernel
theorem OV.sameP {K : PySem.W.Frag} {H H' : Hp} {v : V} {d : PyData} {t : String} {p c : Addr} {m : Nat} (h : OV K H v d t) (HP : PenAt H p c m) (s : SameP p H H') : OV K H' v d t := by
  obtain ⟨ns, pi, pd, pf, pn, hp0, _⟩ := HP.ex
  cases h with
  | non => exact .non
  | bl b => exact .bl b
  | int i h => exact .int i h
  | str x h1 h2 => exact .str x h1 h2
  | lst h1 h2 h3 h4 => exact .lst (s _ _ h1 (ne_of h1 hp0 (fun z => nomatch z))) h2 h3 h4
  | tup h1 h2 h3 => exact .tup (s _ _ h1 (ne_of h1 hp0 (fun z => nomatch z))) h2 h3
  | emp h1 => exact .emp (s _ _ h1 (ne_of h1 hp0 (fun z => nomatch z)))
section
variable {P : Program} {w : World} {K : PySem.W.Frag} {mg : Str → Option Value} {base : Heap} {S : Addr} {A : Nat → Addr}
theorem ok_law {fa : Addr} {fd : FuncData} (F : Fun K "law" "law" sLaw fa fd) (T : Txt K mg) (TX : TxtX mg) (CX : ClsX K mg S A) (C : ClL P w K mg base A)
    (e0 : Ei P w K mg base S (A 0) "BadText" ["line", "column"]) (e2 : Ei P w K mg base S (A 2) "BadNumber" ["what", "number"]) (e4 : Ei P w K mg base S (A 4) "TooMany" ["what", "many", "limit"]) : FnG P w K mg base CX0 6 fa fd ["_law_script"] (spLaw K) := by
  obtain ⟨oc, od, kV, doc, pm, an, cdv, ct, osl, rfl, lk, hcd⟩ := F.ex
  obtain ⟨f0, fd0, ps0, i0, t0, F0, b0⟩ := e0.ex
  obtain ⟨f2, fd2, ps2, i2, t2, F2, b2⟩ := e2.ex
  obtain ⟨f4, fd4, ps4, i4, t4, F4, b4⟩ := e4.ex
  refine fnG_of (k := 5) lk hcd scLaw (fun vs H Q E h => ?_) (fun A1 hg outer s H vs Q E hr h => ?_)
  · obtain ⟨a, ns, rfl, _⟩ := h
    rfl
  · obtain ⟨a, ns, rfl, hS, k⟩ := h
    have hG : (A1.deeper (envOfC "law" (defScope sLaw) s.heap.objs.size fa cdv)).guards = some [] := hg
    have r2 : Room 2 _ := hr.mono (by decide)
    refine ⟨_, PSs.nox (pss_cons (ps_set (i := 1) scLaw.nd rfl (Or.inr rfl) (pe_cl C.pen hr (by decide) rfl (pa_cons (pv 0) pa_nil)))
(C8.pss_cut (ps_for PassesOwn.never rfl (pi_range1 rfl (by exact T.range) (pa_cons pe_int pa_nil)) (pg_name (i := 2) scLaw.nd rfl (Or.inl rfl))
(C8.pss_cut (ps_par (i := 3) (j := 4) (by rfl) scLaw.nd rfl rfl (by decide) rfl rfl (pa_cons (pe_cl C.odd hr (by decide) rfl (pa_cons (pv 1) pa_nil)) (pa_cons (pe_cl C.odd hr (by decide) rfl (pa_cons (pv 1) pa_nil)) pa_nil)) (by rfl))
(C8.pss_cut (ps_par (i := 5) (j := 6) (by rfl) scLaw.nd rfl rfl (by decide) rfl rfl (pa_cons (pe_cl C.single hr (by decide) rfl (pa_cons (pv 1) (pa_cons (pv 3) pa_nil))) (pa_cons (pe_cl C.single hr (by decide) rfl (pa_cons (pv 1) (pa_cons (pv 4) pa_nil))) pa_nil)) (by rfl))
(C8.pss_cut (ps_for PassesOwn.never rfl (pi_list (pe_op op_cat (pv 5) (pv 6))) (pg_tup (by rfl) (pgs_cons (pg_name (i := 7) scLaw.nd rfl (Or.inl rfl)) (pgs_cons (pg_name (i := 8) scLaw.nd rfl (Or.inl rfl)) (pgs_cons (pg_name (i := 9) scLaw.nd rfl (Or.inl rfl)) pgs_nil))))
(pss_cons (ps_if (PW.pt (pw_or (pt_not (pt_val (pe_callB call_isX (by rfl) (by exact TX.isi) (by decide +kernel) (pa_cons (pv 7) (pa_cons (pe_glob rfl (by exact CX.gS) (v := .ref S) rfl) pa_nil))))) (pw_or (pt_not (pt_val (pe_callB call_isX (by rfl) (by exact TX.isi) (by decide +kernel) (pa_cons (pv 7) (pa_cons (pe_bltn rfl (by exact TX.ve) (by decide +kernel) (v := .ty "ValueError") rfl) pa_nil))))) (pw_or1 (pt_cmpR op_ne (pe_cl C.cls hr (by decide) rfl (pa_cons (pv 7) pa_nil)) pe_int (nomark _))))))
(pss_one (ps_ret pe_bl))
pss_nil)
(pss_one (ps_if (PW.pt (pw_and (pt_cmpR op_notN (pv 8) pe_non (nomark _)) (pw_and1 (pt_cmpR op_ne (pe_callB (call_repr hG (hu64 hr)) (by rfl) (by exact TX.repr) PyProof.Rows.boot_repr (pa_cons (pe_cl C.field hr (by decide) rfl (pa_cons (pv 7) (pa_cons (pv 8) pa_nil))) pa_nil)) (pe_callB (call_repr hG (hu64 hr)) (by rfl) (by exact TX.repr) PyProof.Rows.boot_repr (pa_cons (pv 9) pa_nil)) (nomark _)))))
(pss_one (ps_ret pe_bl))
pss_nil))))
(C8.pss_cut (ps_par3 (i := 10) (j := 11) (l := 12) (by rfl) scLaw.nd rfl rfl rfl (by decide) (by decide) (by decide) rfl rfl rfl (pa_cons (pe_mkX e0.ox i0 t0 F0 r2 b0 pass0 rfl (by exact e0.ec.gC) (pa_cons (pv 3) (pa_cons (pv 4) pa_nil))) (pa_cons (pe_mkX e2.ox i2 t2 F2 r2 b2 pass0 rfl (by exact e2.ec.gC) (pa_cons (pv 3) (pa_cons (pv 4) pa_nil))) (pa_cons (pe_mkX e4.ox i4 t4 F4 r2 b4 pass0 rfl (by exact e4.ec.gC) (pa_cons (pv 3) (pa_cons (pv 4) (pa_cons (pv 2) pa_nil)))) pa_nil))) (by rfl))
(C8.pss_cut (ps_set (i := 13) scLaw.nd rfl (Or.inl rfl) (pe_lstN (pa_cons (pe_xfV (pv 10)) (pa_cons (pe_xfV (pv 10)) (pa_cons (pe_xfV (pv 11)) (pa_cons (pe_xfV (pv 11)) (pa_cons (pe_xfV (pv 12)) (pa_cons (pe_xfV (pv 12)) (pa_cons (pe_xfV (pv 12)) pa_nil)))))))))
(C8.pss_cut (ps_set (i := 9) scLaw.nd rfl (Or.inl rfl) (pe_lstN (pa_cons (pv 3) (pa_cons (pv 4) (pa_cons (pv 3) (pa_cons (pv 4) (pa_cons (pv 3) (pa_cons (pv 4) (pa_cons (pv 2) pa_nil)))))))))
(C8.pss_cut (ps_if (PW.pt (pw_or (pt_cmpR op_ne (pe_callB (call_repr hG (hu64 hr)) (by rfl) (by exact TX.repr) PyProof.Rows.boot_repr (pa_cons (pv 13) pa_nil)) (pe_callB (call_repr hG (hu64 hr)) (by rfl) (by exact TX.repr) PyProof.Rows.boot_repr (pa_cons (pv 9) pa_nil)) (nomark _)) (pw_or1 (pt_cmpR (op_neD (hu64 hr)) (pe_lc (own := [("_law_e", 7)]) (g := gName 7) (tt := tYes) (te := tCall (spCls A) [] E0 (tCons (tVar 7) tNil)) (by rfl) scLaw.nd (pi_tup (pe_tup (pa_cons (pv 10) (pa_cons (pv 11) (pa_cons (pv 12) pa_nil))))) (blkOk_by (own := [("_law_e", 7)]) (N := NLaw) (sc := defScope sLaw) (by decide +kernel)) (fun _ _ _ _ _ => (pg_name (i := 7) scLaw.nd rfl (Or.inl rfl))) (fun _ _ _ _ _ => pts_nil) (fun _ _ _ _ _ => (pe_cl C.cls hr (by decide) rfl (pa_cons (pv 7) pa_nil)))) (pe_op op_rep (pe_lst (pa_cons pe_int pa_nil)) pe_int) (nomark _)))))
(pss_one (ps_ret pe_bl))
pss_nil)
(C8.pss_cut (ps_if (pt_cmpR (op_neD (hu64 hr)) (pe_lc (own := [("_law_odd", 17)]) (g := gName 17) (tt := tNot (tB (tCall (spTold K) [] E0 (tCons (tVar 17) tNil)))) (by rfl) scLaw.nd (pi_list (pe_lst (pa_cons (pv 3) (pa_cons (pv 4) pa_nil)))) (blkOk_by (own := [("_law_odd", 17)]) (N := NLaw) (sc := defScope sLaw) (by decide +kernel)) (fun _ _ _ _ _ => (pg_name (i := 17) scLaw.nd rfl (Or.inl rfl))) (fun _ _ _ _ _ => (pts_one (pt_not (pt_val (pe_cl C.told hr (by decide) rfl (pa_cons (pv 17) pa_nil)))))) (fun _ _ _ _ _ => (pv 17))) (pe_lst pa_nil) (nomark _))
(pss_one (ps_ret pe_bl))
pss_nil)
(C8.pss_cut (ps_set (i := 14) scLaw.nd rfl (Or.inl rfl) (pe_join pe_str (pe_lc (own := [("_law_k", 18)]) (g := gName 18) (tt := tYes) (te := tCall (spPick K) [] E0 (tCons (tVar 1) (tCons (tC (.str "a \n")) tNil))) (by rfl) scLaw.nd (pi_range1 rfl (by exact T.range) (pa_cons (pe_cl C.draw hr (by decide) rfl (pa_cons (pv 1) (pa_cons pe_int pa_nil))) pa_nil)) (blkOk_by (own := [("_law_k", 18)]) (N := NLaw) (sc := defScope sLaw) (by decide +kernel)) (fun _ _ _ _ _ => (pg_name (i := 18) scLaw.nd rfl (Or.inl rfl))) (fun _ _ _ _ _ => pts_nil) (fun _ _ _ _ _ => (pe_cl C.pick hr (by decide) rfl (pa_cons (pv 1) (pa_cons pe_str pa_nil)))))))
(C8.pss_cut (ps_set (i := 15) scLaw.nd rfl (Or.inl rfl) (pe_cl C.lines hr (by decide) rfl (pa_cons (pv 14) pa_nil)))
(C8.pss_cut (ps_if (PW.pt (pw_or (pt_not (pt_val (pe_callB call_isi (by rfl) (by exact TX.isi) (by decide +kernel) (pa_cons (pv 15) (pa_cons (pe_bltn rfl (by exact T.tuple) (by decide +kernel) (v := .ty "tuple") rfl) pa_nil))))) (pw_or (pt_cmpR op_ne (pe_join pe_str (pv 15)) (pv 14) (nomark _)) (pw_or1 (pt_cmpR op_ne (pe_callB call_len_seq (by rfl) (by exact T.len) PySem.boot_len (pa_cons (pv 15) pa_nil)) (pe_op op_add (pe_m1 PySem.F.slot_str_count PySem.F.type_str_count mt_count (pv 14) pe_str) pe_int) (nomark _))))))
(pss_one (ps_ret pe_bl))
pss_nil)
(C8.pss_cut (ps_set (i := 16) scLaw.nd rfl (Or.inl rfl) (pe_cl C.pick hr (by decide) rfl (pa_cons (pv 1) (pa_cons (pe_cl0 C.all hr (by decide) rfl) pa_nil))))
(pss_one (ps_if (PW.pt (pw_or (pt_not (pt_val (pe_cl C.sign hr (by decide) rfl (pa_cons (pv 16) pa_nil)))) (pw_or (pt_not (pt_val (pe_cl C.told hr (by decide) rfl (pa_cons (pv 16) pa_nil)))) (pw_or1 (pt_cmpR (op_neD (hu64 hr)) (pe_lc (own := [("_law_line", 19)]) (g := gName 19) (by rfl) scLaw.nd (pi_tup (pv 15)) (blkOk_by (own := [("_law_line", 19)]) (N := NLaw) (sc := defScope sLaw) (by decide +kernel)) (fun _ _ _ _ _ => (pg_name (i := 19) scLaw.nd rfl (Or.inl rfl))) (fun _ _ _ _ _ => (pts_one (pt_cmpR op_in_sign pe_str (pv 19) rfl))) (fun _ _ _ _ _ => (pv 19))) (pe_lst pa_nil) (nomark _))))))
(pss_one (ps_ret pe_bl))
pss_nil)))))))))))))))
(pss_one (ps_ret (pe_cmpR op_eq (pe_cl0 C.all hr (by decide) rfl) (pe_cl0 C.own hr (by decide) rfl) (nomark _)))))), ?_⟩
    refine ⟨_, rfl, a, ns, rfl, hS, fun pn c H0 _ _ HP0 => ?_⟩
    refine ⟨fun σ G => ∃ x2 x3 x4 x5 x6 x7 x8 x9 x10 x11 x12 x13 x14 x15 x16 x17 x18 x19 : Option V, σ = [some (.ref a), some (.ref pn), x2, x3, x4, x5, x6, x7, x8, x9, x10, x11, x12, x13, x14, x15, x16, x17, x18, x19] ∧ PenAt G pn c 40, ?_, ?_⟩
    · refine ⟨2, rfl, by decide, by decide, for_range (n := 2) (fun i σ G => ∃ x2 x3 x4 x5 x6 x7 x8 x9 x10 x11 x12 x13 x14 x15 x16 x17 x18 x19 : Option V, σ = [some (.ref a), some (.ref pn), x2, x3, x4, x5, x6, x7, x8, x9, x10, x11, x12, x13, x14, x15, x16, x17, x18, x19] ∧ PenAt G pn c (20 * i))
          ⟨_, _, _, _, _, _, _, _, _, _, _, _, _, _, _, _, _, _, rfl, HP0⟩ ?_ ?_⟩
      · rintro i σ G hi ⟨x2, x3, x4, x5, x6, x7, x8, x9, x10, x11, x12, x13, x14, x15, x16, x17, x18, x19, rfl, HP⟩
        refine ⟨fun σ G' => ∃ (v u : V) (d1 d2 : PyData) (t1 t2 : String), σ = [some (.ref a), some (.ref pn), some (.int (0 + (i : Int))), some v, some u, x5, x6, x7, x8, x9, x10, x11, x12, x13, x14, x15, x16, x17, x18, x19] ∧ OV K G' v d1 t1 ∧ OV K G' u d2 t2 ∧ PenAt G' pn c (20 * i + 6), ?_, ?_⟩
        · refine ⟨_, rfl, pn, c, _, rfl, HP, by omega, fun v d1 t1 G1 s1 HP1 hO1 => ?_⟩
          refine ⟨_, rfl, pn, c, _, rfl, HP1, by omega, fun u d2 t2 G2 s2 HP2 hO2 => ?_⟩
          exact ⟨_, _, rfl, v, u, d1, d2, t1, t2, rfl, hO1.sameP HP1 s2, hO2, HP2⟩
        rintro σ G1 ⟨v, u, d1, d2, t1, t2, rfl, hO1, hO2, HP1⟩
        refine ⟨fun σ G' => ∃ (q1 q2 : Addr) (ts1 ts2 : List Addr), σ = [some (.ref a), some (.ref pn), some (.int (0 + (i : Int))), some v, some u, some (.ref q1), some (.ref q2), x7, x8, x9, x10, x11, x12, x13, x14, x15, x16, x17, x18, x19] ∧ Same G1 G' ∧ G' q1 = some (.lst (ts1.map V.ref)) ∧ G' q2 = some (.lst (ts2.map V.ref)) ∧ ts1.length = 21 ∧ ts2.length = 21 ∧ (∀ t ∈ ts1, Trip K A G' v t) ∧ (∀ t ∈ ts2, Trip K A G' u t), ?_, ?_⟩
        · refine ⟨_, rfl, _, rfl, _, _, rfl, fun q1 ts1 G2 n1 s1 l1 k1 r1 => ?_⟩
          refine ⟨_, rfl, _, rfl, _, _, rfl, fun q2 ts2 G3 n2 s2 l2 k2 r2 => ?_⟩
          exact ⟨_, _, rfl, q1, q2, ts1, ts2, rfl, s1.trans s2, s2 _ _ l1, l2, k1, k2, fun t h => (r1 t h).same s2, r2⟩
        rintro σ G2 ⟨q1, q2, ts1, ts2, rfl, s2, l1, l2, k1, k2, r1, r2'⟩
        refine ⟨fun σ G' => ∃ x7 x8 x9 : Option V, σ = [some (.ref a), some (.ref pn), some (.int (0 + (i : Int))), some v, some u, some (.ref q1), some (.ref q2), x7, x8, x9, x10, x11, x12, x13, x14, x15, x16, x17, x18, x19] ∧ Same G2 G', ?_, ?_⟩
        · refine ⟨_, rfl, _, rfl, q1, q2, _, _, rfl, rfl, l1, l2, by rw [List.length_map, List.length_map, k1, k2, sizeLine_eq]; decide, fun p hp => ?_⟩
          have s3 := sNew (o := .lst (ts1.map V.ref ++ ts2.map V.ref)) hp
          refine ⟨p, rfl, ⟨_, .inl (.inl upd_same)⟩, for_list (K := K) (a := p) (xs := ts1.map V.ref ++ ts2.map V.ref) (fun j σ G' => ∃ x7 x8 x9 : Option V, σ = [some (.ref a), some (.ref pn), some (.int (0 + (i : Int))), some v, some u, some (.ref q1), some (.ref q2), x7, x8, x9, x10, x11, x12, x13, x14, x15, x16, x17, x18, x19] ∧ Same (upd G2 p (.lst (ts1.map V.ref ++ ts2.map V.ref))) G')
            ⟨_, _, _, rfl, .refl _⟩ (fun j σ G' _ ⟨_, _, _, _, sm⟩ => .inl (.inl (sm _ _ upd_same))) ?_ ?_⟩
          · rintro j y σ G3 hj ⟨y7, y8, y9, rfl, sm⟩
            have hy : ∃ (z : V) (d : PyData) (tz : String) (t : Addr), y = .ref t ∧ OV K G3 z d tz ∧ Trip K A G3 z t := by
              have hm := List.mem_of_getElem? hj
              rcases List.mem_append.mp hm with e | e
              · obtain ⟨t, ht, rfl⟩ := List.mem_map.mp e
                exact ⟨v, d1, t1, t, rfl, (hO1.same s2).same (s3.trans sm), (r1 t ht).same (s3.trans sm)⟩
              · obtain ⟨t, ht, rfl⟩ := List.mem_map.mp e
                exact ⟨u, d2, t2, t, rfl, (hO2.same s2).same (s3.trans sm), (r2' t ht).same (s3.trans sm)⟩
            obtain ⟨z, d, tz, t, rfl, hOz, x, ix, fs, hix, hx, hT⟩ := hy
            have hex := (CX.ec ix hix).ex CX.cc
            have b1 := (CX.ec ix hix).lk.kitS CX.cS CX.tS
            have b2 := (CX.ec ix hix).lk.kitV
            rcases hT with hT | ⟨ad, dd, fld, rfl, hf, hno, h1, h2, h3, hT⟩
            · refine ⟨t, _, rfl, .inl (.inl hT), rfl, _, _, rfl, _, _, rfl, _, _, rfl, rfl, ?_⟩
              refine ⟨_, rfl, x, .ref S, A ix, fs, .ref S, _, rfl, hx, hex, .own _, b1, true, rfl, ?_⟩
              refine (if_neg (by decide)).mpr ?_
              refine ⟨_, rfl, x, .ty "ValueError", A ix, fs, .type "ValueError", _, rfl, hx, hex, .ty _, b2, true, rfl, ?_⟩
              refine (if_neg (by decide)).mpr ?_
              refine ⟨_, rfl, x, ix, fs, rfl, hix, hx, fun G4 s4 => ⟨rfl, false, rfl, ?_⟩⟩
              refine (if_neg (by decide)).mpr ?_
              refine ⟨_, rfl, rfl, false, rfl, ?_⟩
              refine (if_neg (by decide)).mpr ?_
              refine (if_neg (by decide)).mpr ?_
              exact ⟨_, _, _, rfl, sm.trans s4⟩
            · refine ⟨t, _, rfl, .inl (.inl hT), rfl, _, _, rfl, _, _, rfl, _, _, rfl, rfl, ?_⟩
              refine ⟨_, rfl, .ref ad, .ref S, A ix, fs, .ref S, _, rfl, hx, hex, .own _, b1, true, rfl, ?_⟩
              refine (if_neg (by decide)).mpr ?_
              refine ⟨_, rfl, .ref ad, .ty "ValueError", A ix, fs, .type "ValueError", _, rfl, hx, hex, .ty _, b2, true, rfl, ?_⟩
              refine (if_neg (by decide)).mpr ?_
              refine ⟨_, rfl, .ref ad, ix, fs, rfl, hix, hx, fun G4 s4 => ⟨rfl, false, rfl, ?_⟩⟩
              refine (if_neg (by decide)).mpr ?_
              refine ⟨_, rfl, rfl, true, rfl, ?_⟩
              refine (if_pos rfl).mpr ?_
              have hOw := hOz.same s4
              refine ⟨_, rfl, _, rfl, fld, A ix, ad, dd, fs, z, rfl, hf, (CX.ec ix hix).xf, hno, s4 _ _ h1, s4 _ _ h2, h3, z, d, rfl, hOw.shw, hOw.shb.sh, Nat.le_trans hOw.shb.dp (by decide), Nat.le_trans hOw.shb.ln (by rw [sizeLine_eq]; decide), ?_⟩
              refine ⟨_, rfl, z, d, rfl, hOw.shw, hOw.shb.sh, Nat.le_trans hOw.shb.dp (by decide), Nat.le_trans hOw.shb.ln (by rw [sizeLine_eq]; decide), ?_⟩
              refine ⟨rfl, false, by rw [decide_eq_true rfl]; rfl, ?_⟩
              refine (if_neg (by decide)).mpr ?_
              exact ⟨_, _, _, rfl, sm.trans s4⟩
          · rintro σ G3 ⟨y7, y8, y9, rfl, sm⟩
            exact ⟨_, _, _, rfl, s3.trans sm⟩
        rintro σ G3 ⟨y7, y8, y9, rfl, s3⟩
        have hO1' := (hO1.same s2).same s3
        have hO2' := (hO2.same s2).same s3
        have HP3 := (HP1.same s2).same s3
        clear hO1 hO2 HP1 r1 r2' l1 l2
        refine ⟨fun σ G' => ∃ b0 b1 b2 : Addr, σ = [some (.ref a), some (.ref pn), some (.int (0 + (i : Int))), some v, some u, some (.ref q1), some (.ref q2), y7, y8, y9, some (.ref b0), some (.ref b1), some (.ref b2), x13, x14, x15, x16, x17, x18, x19] ∧ Same G3 G' ∧ XAt G' (A 0) b0 ((([("line" : Str), "column"] : List Str).zip [v, u]).reverse) ∧ XAt G' (A 2) b1 ((([("what" : Str), "number"] : List Str).zip [v, u]).reverse) ∧ XAt G' (A 4) b2 ((([("what" : Str), "many", "limit"] : List Str).zip [v, u, .int (0 + (i : Int))]).reverse), ?_, ?_⟩
        · refine ⟨_, rfl, _, rfl, by show 2 ≤ 1000; decide, fun b0 hb0 => ⟨b0, [v, u], rfl, rfl, upd_same, fun G4 g0 _ _ hk0 m0 m0' => ⟨rfl, ?_⟩⟩⟩
          have s4 := same_mk hb0 hk0
          have X0 : XAt G4 (A 0) b0 _ := ⟨g0, m0, m0'⟩
          refine ⟨_, rfl, _, rfl, by show 2 ≤ 1000; decide, fun b1 hb1 => ⟨b1, [v, u], rfl, rfl, upd_same, fun G5 g1 _ _ hk1 m1 m1' => ⟨rfl, ?_⟩⟩⟩
          have s5 := same_mk hb1 hk1
          have X1 : XAt G5 (A 2) b1 _ := ⟨g1, m1, m1'⟩
          refine ⟨_, rfl, _, rfl, _, rfl, by show 3 ≤ 1000; decide, fun b2 hb2 => ⟨b2, [v, u, .int (0 + (i : Int))], rfl, rfl, upd_same, fun G6 g2 _ _ hk2 m2 m2' => ⟨rfl, ?_⟩⟩⟩
          have s6 := same_mk hb2 hk2
          have X2 : XAt G6 (A 4) b2 _ := ⟨g2, m2, m2'⟩
          exact ⟨_, _, _, rfl, b0, b1, b2, rfl, s4.trans (s5.trans s6), X0.same (s5.trans s6), X1.same s6, X2⟩
        rintro σ G4 ⟨b0, b1, b2, rfl, s4, X0, X1, X2⟩
        refine ⟨fun σ G' => ∃ p1 : Addr, σ = [some (.ref a), some (.ref pn), some (.int (0 + (i : Int))), some v, some u, some (.ref q1), some (.ref q2), y7, y8, y9, some (.ref b0), some (.ref b1), some (.ref b2), some (.ref p1), x14, x15, x16, x17, x18, x19] ∧ Same G4 G' ∧ p1 ≠ sysModules ∧ G' p1 = some (.lst [v, u, v, u, v, u, .int (0 + (i : Int))]), ?_, ?_⟩
        · obtain ⟨e0d, f1, f2'⟩ := id X0
          obtain ⟨e1d, g1, g2⟩ := id X1
          obtain ⟨e2d, k1', k2'⟩ := id X2
          refine ⟨_, rfl, A 0, b0, e0d, _, v, rfl, e0.ec.xf, e0.nf _ (by simp), f1, f2', lkA1, ?_⟩
          refine ⟨_, rfl, A 0, b0, e0d, _, u, rfl, e0.ec.xf, e0.nf _ (by simp), f1, f2', lkA2, ?_⟩
          refine ⟨_, rfl, A 2, b1, e1d, _, v, rfl, e2.ec.xf, e2.nf _ (by simp), g1, g2, lkB1, ?_⟩
          refine ⟨_, rfl, A 2, b1, e1d, _, u, rfl, e2.ec.xf, e2.nf _ (by simp), g1, g2, lkB2, ?_⟩
          refine ⟨_, rfl, A 4, b2, e2d, _, v, rfl, e4.ec.xf, e4.nf _ (by simp), k1', k2', lkC1, ?_⟩
          refine ⟨_, rfl, A 4, b2, e2d, _, u, rfl, e4.ec.xf, e4.nf _ (by simp), k1', k2', lkC2, ?_⟩
          refine ⟨_, rfl, A 4, b2, e2d, _, .int (0 + (i : Int)), rfl, e4.ec.xf, e4.nf _ (by simp), k1', k2', lkC3, ?_⟩
          refine ⟨by show 7 ≤ sizeLine; decide, fun p1 hp1 np1 => ?_⟩
          exact ⟨p1, rfl, sNew hp1, np1, upd_same⟩
        rintro σ G5 ⟨p1, rfl, s5, np1, l1⟩
        refine ⟨fun σ G' => ∃ p2 : Addr, σ = [some (.ref a), some (.ref pn), some (.int (0 + (i : Int))), some v, some u, some (.ref q1), some (.ref q2), y7, y8, some (.ref p2), some (.ref b0), some (.ref b1), some (.ref b2), some (.ref p1), x14, x15, x16, x17, x18, x19] ∧ Same G5 G' ∧ p2 ≠ sysModules ∧ G' p2 = some (.lst [v, u, v, u, v, u, .int (0 + (i : Int))]), ?_, ?_⟩
        · refine ⟨_, rfl, _, rfl, _, rfl, _, rfl, _, rfl, _, rfl, _, rfl, ?_⟩
          refine ⟨by show 7 ≤ sizeLine; decide, fun p2 hp2 np2 => ?_⟩
          exact ⟨p2, rfl, sNew hp2, np2, upd_same⟩
        rintro σ G6 ⟨p2, rfl, s6, np2, l2⟩
        have l1' := s6 _ _ l1
        have s46 := s4.trans (s5.trans s6)
        have hOv := hO1'.same s46
        have hOu := hO2'.same s46
        have HP6 := HP3.same s46
        have X0' := X0.same (s5.trans s6)
        have X1' := X1.same (s5.trans s6)
        have X2' := X2.same (s5.trans s6)
        obtain ⟨z1, z2, z3⟩ := d7_sh hOv.shb hOu.shb (i := 0 + (i : Int)) (by omega)
        have hSh : ∀ {p : Addr}, p ≠ sysModules → G6 p = some (.lst [v, u, v, u, v, u, .int (0 + (i : Int))]) → Sh K G6 (.ref p) (d7 d1 d2 (0 + (i : Int))) := fun np hp => .lst (.inl (.inl hp)) np (.cons hOv.shw (.cons hOu.shw (.cons hOv.shw (.cons hOu.shw (.cons hOv.shw (.cons hOu.shw (.cons (.int _) .nil)))))))
        refine ⟨fun σ G' => σ = [some (.ref a), some (.ref pn), some (.int (0 + (i : Int))), some v, some u, some (.ref q1), some (.ref q2), y7, y8, some (.ref p2), some (.ref b0), some (.ref b1), some (.ref b2), some (.ref p1), x14, x15, x16, x17, x18, x19] ∧ Same G6 G', ?_, ?_⟩
        · refine ⟨_, rfl, .ref p1, d7 d1 d2 (0 + (i : Int)), rfl, hSh np1 l1', z1, z2, z3, ?_⟩
          refine ⟨_, rfl, .ref p2, d7 d1 d2 (0 + (i : Int)), rfl, hSh np2 l2, z1, z2, z3, ?_⟩
          refine ⟨rfl, false, by rw [decide_eq_true rfl]; rfl, ?_⟩
          refine (if_neg (by decide)).mpr ?_
          refine ⟨_, rfl, _, rfl, _, rfl, by show 3 ≤ sizeLine; decide, fun t ht => ⟨t, rfl, ⟨_, .inl (.inl upd_same)⟩, fun D hD => ?_⟩⟩
          have st := sNew (o := .tup [V.ref b0, V.ref b1, V.ref b2]) ht
          refine lc_tup (K := K) (a := t) (xs := [V.ref b0, V.ref b1, V.ref b2]) (fun j G => Same (upd G6 t (.tup [V.ref b0, V.ref b1, V.ref b2])) G ∧ j ≤ 3 ∧ G D = some (.lst (List.replicate j (V.int 1)))) ⟨sNew hD, by decide, upd_same⟩ (fun j G _ ⟨sm, _⟩ => .inl (.inl (sm _ _ upd_same))) ?_ ?_
          · rintro j y G hj ⟨sm, hj3, hD2⟩
            have hj3 : j < 3 := (List.getElem?_eq_some_iff.mp hj).1
            have hm := List.mem_of_getElem? hj
            have sx := st.trans sm
            have hy : ∃ (ix : Nat) (fs : List (Str × V)), ix < 24 ∧ IsX G (A ix) y fs := by
              simp only [List.mem_cons, List.not_mem_nil, or_false] at hm
              rcases hm with rfl | rfl | rfl
              · exact ⟨0, _, by decide, (X0'.same sx).is⟩
              · exact ⟨2, _, by decide, (X1'.same sx).is⟩
              · exact ⟨4, _, by decide, (X2'.same sx).is⟩
            obtain ⟨ix, fs, hix, hx⟩ := hy
            refine ⟨rfl, ?_⟩
            simp only [tYes, if_true]
            refine ⟨_, rfl, y, ix, fs, rfl, hix, hx, fun G' s' => ⟨_, s' _ _ hD2, by rw [List.length_replicate, sizeLine_eq]; omega, sPut (sm.trans s') hD, by omega, ?_⟩⟩
            rw [upd_same, List.replicate_succ']
          · rintro G ⟨sm, _, hD2⟩
            refine ⟨by show 1 ≤ sizeLine; decide, fun o1 ho1 => ⟨o1, 3, [V.int 1], rfl, rfl, upd_same, by decide, by decide, by show 1 * 3 ≤ sizeLine; decide, fun o2 ho2 => ?_⟩⟩
            have sA := (sNew (o := .lst [V.int 1]) ho1).trans (sNew (o := .lst (List.replicate (3 : Int).toNat [V.int 1]).flatten) ho2)
            refine ⟨.list (List.replicate 3 (.int 1)), .list (List.replicate 3 (.int 1)), dp_ones (sA _ _ hD2), dp_ones upd_same, by rfl, by rfl, false, by rw [ones3]; rfl, ?_⟩
            refine (if_neg (by decide)).mpr ?_
            exact ⟨rfl, (st.trans sm).trans sA⟩
        rintro σ G7 ⟨rfl, s7⟩
        refine ⟨fun σ G' => σ = [some (.ref a), some (.ref pn), some (.int (0 + (i : Int))), some v, some u, some (.ref q1), some (.ref q2), y7, y8, some (.ref p2), some (.ref b0), some (.ref b1), some (.ref b2), some (.ref p1), x14, x15, x16, x17, x18, x19] ∧ Same G7 G', ?_, ?_⟩
        · refine ⟨_, rfl, _, rfl, by show 2 ≤ sizeLine; decide, fun t ht => ⟨t, rfl, ⟨_, .inl (.inl upd_same)⟩, fun D hD => ?_⟩⟩
          have st := sNew (o := .lst [v, u]) ht
          refine lc_list (K := K) (a := t) (xs := [v, u]) (fun j G => Same (upd G7 t (.lst [v, u])) G ∧ G D = some (.lst [])) ⟨sNew hD, upd_same⟩ (fun j G _ ⟨sm, _⟩ => .inl (.inl (sm _ _ upd_same))) ?_ ?_
          · rintro j y G hj ⟨sm, hD2⟩
            have hm := List.mem_of_getElem? hj
            have sx := s7.trans (st.trans sm)
            have hy : ∃ (d : PyData) (tz : String), OV K G y d tz := by
              simp only [List.mem_cons, List.not_mem_nil, or_false] at hm
              rcases hm with rfl | rfl
              · exact ⟨_, _, hOv.same sx⟩
              · exact ⟨_, _, hOu.same sx⟩
            obtain ⟨d, tz, hO⟩ := hy
            refine ⟨rfl, _, rfl, y, d, tz, rfl, hO, fun G' s' => ⟨true, rfl, ?_⟩⟩
            refine (if_neg (by decide)).mpr ?_
            exact ⟨sm.trans s', s' _ _ hD2⟩
          · rintro G ⟨sm, hD2⟩
            refine ⟨by show 0 ≤ sizeLine; decide, fun o1 ho1 => ?_⟩
            refine ⟨.list [], .list [], dp_nil (sNew ho1 _ _ hD2), dp_nil upd_same, by rfl, by rfl, false, by rfl, ?_⟩
            refine (if_neg (by decide)).mpr ?_
            exact ⟨rfl, (st.trans sm).trans (sNew ho1)⟩
        rintro σ G8 ⟨rfl, s8⟩
        have HP8 := (HP6.same s7).same s8
        clear X0 X1 X2 X0' X1' X2' hSh z1 z2 z3
        refine ⟨fun σ G' => ∃ cs : List Nat, σ = [some (.ref a), some (.ref pn), some (.int (0 + (i : Int))), some v, some u, some (.ref q1), some (.ref q2), y7, y8, some (.ref p2), some (.ref b0), some (.ref b1), some (.ref b2), some (.ref p1), some (.str ⟨cs.toArray⟩), x15, x16, x17, x18, x19] ∧ cs.length ≤ 6 ∧ (∀ c ∈ cs, c = 97 ∨ c = 32 ∨ c = 10) ∧ PenAt G' pn c (20 * i + 13), ?_, ?_⟩
        · refine ⟨⟨_, rfl⟩, _, rfl, pn, c, _, 7, rfl, HP8, by omega, by decide, by decide, fun n o n0 n7 HP9 => ?_⟩
          refine ⟨n, rfl, by omega, by omega, fun D hD => ?_⟩
          have npD : pn ≠ D := ne_of_none HP9.dict.choose_spec hD
          have ncD : c ≠ D := ne_of_none HP9.cells.choose_spec hD
          refine lc_range (lo := 0) (n := n.toNat) (fun j G => ∃ cs : List Nat, G D = some (.lst (cs.map fun c => V.str ⟨#[c]⟩)) ∧ cs.length = j ∧ (∀ c ∈ cs, c = 97 ∨ c = 32 ∨ c = 10) ∧ PenAt G pn c (20 * i + 7 + j))
            ⟨[], upd_same, rfl, (fun c h => nomatch h), HP9.put npD ncD⟩ ?_ ?_
          · rintro j G hj ⟨cs, hD2, hl, hc, HPg⟩
            refine ⟨rfl, ?_⟩
            simp only [tYes, if_true]
            refine ⟨_, rfl, pn, c, _, .str "a \n", _, rfl, HPg, .str (by decide), by omega, by decide, by decide, fun k z o hz HPh => ?_⟩
            have hm := List.mem_of_getElem? hz
            have hD3 := HPg.lst (o := o) hD2
            obtain ⟨cc, hcc, rfl⟩ := List.mem_map.mp hm
            have hcc3 : cc = 97 ∨ cc = 32 ∨ cc = 10 := by
              have e : ("a \n" : Str).cps.toList = [97, 32, 10] := by decide +kernel
              rw [e] at hcc
              simpa using hcc
            refine ⟨_, hD3, by rw [List.length_map, sizeLine_eq]; omega, cs ++ [cc], by rw [upd_same, List.map_append]; rfl, by rw [List.length_append, hl]; rfl, fun y hy => ?_, (HPh.mono (by omega)).put npD ncD⟩
            rcases List.mem_append.mp hy with h | h
            · exact hc y h
            · rw [List.mem_singleton.mp h]; exact hcc3
          · rintro G ⟨cs, hD2, hl, hc, HPg⟩
            have ok := OkT.of (by omega) hc
            refine ⟨"", D, cs.map (fun c => (⟨#[c]⟩ : Str)), rfl, rfl, .inl (.inl (.inl (by rw [List.map_map]; exact hD2))), ?_, ?_⟩
            · rw [ones_sum, List.length_map]
              show cs.length + cs.length * 0 ≤ 16777216
              omega
            · refine ⟨cs, by rw [ok.jo]; rfl, by omega, hc, HPg.mono (by omega)⟩
        rintro σ G9 ⟨cs, rfl, hcl, hcc, HP9⟩
        have ok := OkT.of hcl hcc
        refine ⟨fun σ G' => ∃ r : Addr, σ = [some (.ref a), some (.ref pn), some (.int (0 + (i : Int))), some v, some u, some (.ref q1), some (.ref q2), y7, y8, some (.ref p2), some (.ref b0), some (.ref b1), some (.ref b2), some (.ref p1), some (.str ⟨cs.toArray⟩), some (.ref r), x16, x17, x18, x19] ∧ G' r = some (.tup ((Txt.split ⟨cs.toArray⟩ "\n").map V.str)) ∧ PenAt G' pn c (20 * i + 13), ?_, ?_⟩
        · refine ⟨_, rfl, ⟨cs.toArray⟩, rfl, by show cs.length ≤ 100; omega, ok.le, fun r G' hr' s' hrt => ⟨r, rfl, hrt, HP9.same s'⟩⟩
        rintro σ G10 ⟨r, rfl, hr10, HP10⟩
        refine ⟨fun σ G' => σ = [some (.ref a), some (.ref pn), some (.int (0 + (i : Int))), some v, some u, some (.ref q1), some (.ref q2), y7, y8, some (.ref p2), some (.ref b0), some (.ref b1), some (.ref b2), some (.ref p1), some (.str ⟨cs.toArray⟩), some (.ref r), x16, x17, x18, x19] ∧ G' = G10, ?_, ?_⟩
        · refine ⟨_, rfl, .ref r, .ty "tuple", _, _, _, rfl, .ty "tuple", .base (.tup hr10), kit_ty (r := true) (by decide +kernel), true, rfl, ?_⟩
          refine (if_neg (by decide)).mpr ?_
          refine ⟨⟨_, rfl⟩, _, rfl, "\n", r, _, rfl, rfl, .inr (.inl (.inl hr10)), ok.sz, _, rfl, rfl, false, by rw [ok.jn, decide_eq_true rfl]; rfl, ?_⟩
          refine (if_neg (by decide)).mpr ?_
          refine ⟨_, rfl, r, _, rfl, .inr (.inl (.inl hr10)), _, rfl, ⟨_, rfl⟩, _, _, rfl, rfl, ?_⟩
          have e : (((Txt.split ⟨cs.toArray⟩ "\n").map V.str).length : Int) = (Txt.count ⟨cs.toArray⟩ "\n" : Int) + 1 := by
            rw [List.length_map, ok.ct]
          refine ⟨_, _, rfl, rfl, rfl, false, by rw [e, decide_eq_true rfl]; rfl, ?_⟩
          refine (if_neg (by decide)).mpr ?_
          exact ⟨rfl, rfl⟩
        rintro σ G11 ⟨rfl, rfl⟩
        refine ⟨fun σ G' => ∃ cc : Nat, σ = [some (.ref a), some (.ref pn), some (.int (0 + (i : Int))), some v, some u, some (.ref q1), some (.ref q2), y7, y8, some (.ref p2), some (.ref b0), some (.ref b1), some (.ref b2), some (.ref p1), some (.str ⟨cs.toArray⟩), some (.ref r), some (.str ⟨#[cc]⟩), x17, x18, x19] ∧ cc ∈ SG.cps.toList ∧ G' r = some (.tup ((Txt.split ⟨cs.toArray⟩ "\n").map V.str)) ∧ PenAt G' pn c (20 * i + 14), ?_, ?_⟩
        · refine ⟨_, rfl, rfl, pn, c, _, .str SG, _, rfl, HP10, .str (by decide), by omega, by decide +kernel, by decide +kernel, fun k z o hz HPh => ?_⟩
          have hm := List.mem_of_getElem? hz
          obtain ⟨cc, hcc, rfl⟩ := List.mem_map.mp hm
          obtain ⟨ns', pi, pd, pf, pn', hp0, _⟩ := HP10.ex
          exact ⟨cc, rfl, hcc, by rw [upd_ne (ne_of hr10 hp0 (fun z => nomatch z))]; exact hr10, HPh⟩
        rintro σ G12 ⟨cc, rfl, hcc, hr12, HP12⟩
        have hOc : OV K G12 (.str ⟨#[cc]⟩) (.str ⟨#[cc]⟩) "str" := .str _ (by show 1 ≤ 60; decide) (fun d hd => by
          have e : d = cc := by simpa using hd
          rw [e]
          exact SG_128 cc hcc)
        refine ⟨_, rfl, .str ⟨#[cc]⟩, .str ⟨#[cc]⟩, "str", rfl, hOc, fun G13 s13 => ⟨true, by rw [fSign_in hcc], ?_⟩⟩
        refine (if_neg (by decide)).mpr ?_
        refine ⟨_, rfl, .str ⟨#[cc]⟩, .str ⟨#[cc]⟩, "str", rfl, hOc.same s13, fun G14 s14 => ⟨true, rfl, ?_⟩⟩
        refine (if_neg (by decide)).mpr ?_
        have sm14 := s13.trans s14
        have hr14 := sm14 _ _ hr12
        refine ⟨_, rfl, r, rfl, ⟨_, .inl (.inl hr14)⟩, fun D hD => ?_⟩
        refine lc_tup (K := K) (a := r) (xs := (Txt.split ⟨cs.toArray⟩ "\n").map V.str) (fun j G => Same G14 G ∧ G D = some (.lst [])) ⟨sNew hD, upd_same⟩ (fun j G _ ⟨sm, _⟩ => .inl (.inl (sm _ _ hr14))) ?_ ?_
        · rintro j y G hj ⟨sm, hD2⟩
          obtain ⟨x, hx, rfl⟩ := List.mem_map.mp (List.mem_of_getElem? hj)
          refine ⟨rfl, _, rfl, 10, x, lit10, rfl, false, by rw [ok.no x hx], ?_⟩
          refine (if_neg (by decide)).mpr ?_
          exact ⟨sm, hD2⟩
        · rintro G ⟨sm, hD2⟩
          refine ⟨by show 0 ≤ sizeLine; decide, fun o1 ho1 => ?_⟩
          refine ⟨.list [], .list [], dp_nil (sNew ho1 _ _ hD2), dp_nil upd_same, by rfl, by rfl, false, by rfl, ?_⟩
          refine (if_neg (by decide)).mpr ?_
          exact ⟨_, _, _, _, _, _, _, _, _, _, _, _, _, _, _, _, _, _, rfl, (HP12.same (sm14.trans (sm.trans (sNew ho1)))).mono (by omega)⟩
      · rintro σ G ⟨x2, x3, x4, x5, x6, x7, x8, x9, x10, x11, x12, x13, x14, x15, x16, x17, x18, x19, rfl, HP⟩
        exact ⟨_, _, _, _, _, _, _, _, _, _, _, _, _, _, _, _, _, _, rfl, HP⟩
    · rintro σ G ⟨x2, x3, x4, x5, x6, x7, x8, x9, x10, x11, x12, x13, x14, x15, x16, x17, x18, x19, rfl, HP⟩
      refine ⟨rfl, rfl, rfl, ?_⟩
      rw [decide_eq_true rfl]
      exact k _
end
end Wq
set_option Elab.async false
set_option linter.all false
set_option maxRecDepth 100000
set_option maxHeartbeats 2000000
namespace Wq
open PySem PySem.Spec PyProof.Rows L2
/-- what is written of a class of errors with fields -/
structure ClW (K : PySem.W.Frag) (mg : Str → Option Value) (S C : Addr) (x : Str) (fs : List Str) : Prop where
  ec : Ec K mg S C x
  sa : PySem.W.findIn K (.ref C) "__setattr__" = some (some (.builtin "object.__setattr__"))
  nf : ∀ f ∈ fs, PySem.W.findIn K (.ref C) f = some none
theorem nf1 {K : PySem.W.Frag} {C : Addr} {f : Str} (h : PySem.W.findIn K (.ref C) f = some none) : ∀ g ∈ [f], PySem.W.findIn K (.ref C) g = some none := fun g hg => by rw [List.mem_singleton.mp hg]; exact h
theorem nf2 {K : PySem.W.Frag} {C : Addr} {f g : Str} (h : PySem.W.findIn K (.ref C) f = some none) (h2 : PySem.W.findIn K (.ref C) g = some none) : ∀ y ∈ [f, g], PySem.W.findIn K (.ref C) y = some none := fun y hy => by
  rcases List.mem_cons.mp hy with e | e
  · rw [e]; exact h
  · exact nf1 h2 y e
theorem nf3 {K : PySem.W.Frag} {C : Addr} {f g z : Str} (h : PySem.W.findIn K (.ref C) f = some none) (h2 : PySem.W.findIn K (.ref C) g = some none) (h3 : PySem.W.findIn K (.ref C) z = some none) : ∀ y ∈ [f, g, z], PySem.W.findIn K (.ref C) y = some none := fun y hy => by
  rcases List.mem_cons.mp hy with e | e
  · rw [e]; exact h
  · exact nf2 h2 h3 y e
theorem lx_mk {K : PySem.W.Frag} {C S : Addr} {nm q : Str} {N : Addr} {bs : List Value} {sn : List Str} {sub : List Value} {ab : Bool} {col : Option Bool} {dd : Option Addr} {k0 k1 k2 k3 k5 : Option Value}
    (l : K.lookup C = some (excClassObj nm q C N bs (.ref S :: PySem.HandSPX.veTail) true sn sub ab col dd k0 k1 k2 k3 k5 "ValueError.__new__")) : LX K C S := ⟨nm, q, N, bs, sn, sub, ab, col, dd, k0, k1, k2, k3, k5, l⟩
theorem getD_at {l : List Addr} {i : Nat} (hi : i < l.length) : l.getD i 0 = l[i] := by simp [List.getD, hi]
theorem nodup_inj {l : List Addr} (h : l.Nodup) {i j : Nat} (hi : i < l.length) (hj : j < l.length) (e : l.getD i 0 = l.getD j 0) : i = j := by
  rw [getD_at hi, getD_at hj] at e
  have p := List.pairwise_iff_getElem.mp h
  rcases Nat.lt_trichotomy i j with z | z | z
  · exact absurd e (p i j hi hj z)
  · exact z
  · exact absurd e.symm (p j i hj hi z)
theorem notin_ne {l : List Addr} {S : Addr} (h : S ∉ l) {i : Nat} (hi : i < l.length) : S ≠ l.getD i 0 := by
  rw [getD_at hi]
  intro e
  exact h (e ▸ List.getElem_mem hi)

theorem all_mk {l : PySem.W.OpenLaw} {w : World} {K : PySem.W.Frag} {h : Heap} {mg : Str → Option Value} {fa S a0 a1 a2 a3 a4 a5 a6 a7 a8 a9 a10 a11 a12 a13 a14 a15 a16 a17 a18 a19 a20 a21 a22 a23 : Addr} (X : K.In h) (G : h.Ns mainGlobals mg) (hfa : mg "law" = some (.ref fa))
    (T : Txt K mg) (TX : TxtX mg) (cc : Ecc K) (cS : (PySem.W.clsIn K S).isSome = true) (tS : PySem.W.typeIn K (.ref S) = some (.type "type")) (gS : mg "SearchError" = some (.ref S))
    (nd : ([a0, a1, a2, a3, a4, a5, a6, a7, a8, a9, a10, a11, a12, a13, a14, a15, a16, a17, a18, a19, a20, a21, a22, a23] : List Addr).Nodup) (nS : S ∉ ([a0, a1, a2, a3, a4, a5, a6, a7, a8, a9, a10, a11, a12, a13, a14, a15, a16, a17, a18, a19, a20, a21, a22, a23] : List Addr))
    (c0 : ClW K mg S a0 "BadText" ["line", "column"]) (m0 : MAt K a0 "__init__" "BadText.__init__" sBadText)
    (c1 : ClW K mg S a1 "BadWord" ["what"]) (m1 : MAt K a1 "__init__" "BadWord.__init__" sBadWord)
    (c2 : ClW K mg S a2 "BadNumber" ["what", "number"]) (m2 : MAt K a2 "__init__" "BadNumber.__init__" sBadNumber)
    (c3 : ClW K mg S a3 "BadBytes" ["place"]) (m3 : MAt K a3 "__init__" "BadBytes.__init__" sBadBytes)
    (c4 : ClW K mg S a4 "TooMany" ["what", "many", "limit"]) (m4 : MAt K a4 "__init__" "TooMany.__init__" sTooMany)
    (c5 : ClW K mg S a5 "NoField" ["name"]) (m5 : MAt K a5 "__init__" "NoField.__init__" sNoField)
    (c6 : ClW K mg S a6 "NoPaper" ["key"]) (m6 : MAt K a6 "__init__" "NoPaper.__init__" sNoPaper)
    (c7 : ClW K mg S a7 "TakenKey" ["key"]) (m7 : MAt K a7 "__init__" "TakenKey.__init__" sTakenKey)
    (c8 : ClW K mg S a8 "Broken" ["name"]) (m8 : MAt K a8 "__init__" "Broken.__init__" sBroken)
    (c9 : Ec K mg S a9 "Crashed") (x9 : PySem.W.excIn K a9 VEs "ValueError.__new__" = true)
    (c10 : ClW K mg S a10 "NotAscending" ["index"]) (m10 : MAt K a10 "__init__" "NotAscending.__init__" sNotAscending)
    (c11 : ClW K mg S a11 "BadOutput" ["index"]) (m11 : MAt K a11 "__init__" "BadOutput.__init__" sBadOutput)
    (c12 : ClW K mg S a12 "NoPlace" ["place"]) (m12 : MAt K a12 "__init__" "NoPlace.__init__" sNoPlace)
    (c13 : ClW K mg S a13 "BadRows" ["index"]) (m13 : MAt K a13 "__init__" "BadRows.__init__" sBadRows)
    (c14 : ClW K mg S a14 "BadLength" ["number"]) (m14 : MAt K a14 "__init__" "BadLength.__init__" sBadLength)
    (c15 : ClW K mg S a15 "NoBlock" ["index"]) (m15 : MAt K a15 "__init__" "NoBlock.__init__" sNoBlock)
    (c16 : ClW K mg S a16 "NoFile" ["name"]) (m16 : MAt K a16 "__init__" "NoFile.__init__" sNoFile)
    (c17 : ClW K mg S a17 "BadCrash" ["what"]) (m17 : MAt K a17 "__init__" "BadCrash.__init__" sBadCrash)
    (c18 : ClW K mg S a18 "TornFile" ["name"]) (m18 : MAt K a18 "__init__" "TornFile.__init__" sTornFile)
    (c19 : Ec K mg S a19 "Merging") (x19 : PySem.W.excIn K a19 VEs "ValueError.__new__" = true)
    (c20 : Ec K mg S a20 "NotMerging") (x20 : PySem.W.excIn K a20 VEs "ValueError.__new__" = true)
    (c21 : Ec K mg S a21 "NothingToUndo") (x21 : PySem.W.excIn K a21 VEs "ValueError.__new__" = true)
    (c22 : Ec K mg S a22 "NothingToRedo") (x22 : PySem.W.excIn K a22 VEs "ValueError.__new__" = true)
    (c23 : ClW K mg S a23 "BadScoring" ["numbers"]) (m23 : MAt K a23 "__init__" "BadScoring.__init__" sBadScoring)
    (d5 : DefAt K mg "all_signs" sAll) (d6 : DefAt K mg "is_sign" sSign) (d7 : DefAt K mg "is_text" sText) (d8 : DefAt K mg "is_row" sRow) (d9 : DefAt K mg "is_word" sWord) (d10 : DefAt K mg "is_name" sName) (d11 : DefAt K mg "is_integer" sInt) (d12 : DefAt K mg "lines_of" sLines) (d40 : DefAt K mg "_law_pen" sPen) (d41 : DefAt K mg "_law_draw" sDraw) (d42 : DefAt K mg "_law_pick" sPick) (d43 : DefAt K mg "_law_classes_of" sCls) (d44 : DefAt K mg "_law_single" sSingle) (d45 : DefAt K mg "_law_field" sField) (d46 : DefAt K mg "_law_own_signs" sOwn) (d47 : DefAt K mg "_law_odd_value" sOddV) (d48 : DefAt K mg "_law_are_told" sTold) (d49 : DefAt K mg "law" sLaw) :
    ∃ fd : FuncData, (∀ (s : Shared) (v : Value), BindsTo s fd ⟨[v], []⟩ [("_law_script", v)]) ∧ ∀ base : Heap, K.In base → base.Ns mainGlobals mg → FnG l.prog w K mg base CX0 6 fa fd ["_law_script"] (spLaw K) := by
  have CX : ClsX K mg S (fun i => [a0, a1, a2, a3, a4, a5, a6, a7, a8, a9, a10, a11, a12, a13, a14, a15, a16, a17, a18, a19, a20, a21, a22, a23].getD i 0) := ⟨fun i hi => match i, hi with
    | 0, _ => c0.ec
    | 1, _ => c1.ec
    | 2, _ => c2.ec
    | 3, _ => c3.ec
    | 4, _ => c4.ec
    | 5, _ => c5.ec
    | 6, _ => c6.ec
    | 7, _ => c7.ec
    | 8, _ => c8.ec
    | 9, _ => c9
    | 10, _ => c10.ec
    | 11, _ => c11.ec
    | 12, _ => c12.ec
    | 13, _ => c13.ec
    | 14, _ => c14.ec
    | 15, _ => c15.ec
    | 16, _ => c16.ec
    | 17, _ => c17.ec
    | 18, _ => c18.ec
    | 19, _ => c19
    | 20, _ => c20
    | 21, _ => c21
    | 22, _ => c22
    | 23, _ => c23.ec
    | _ + 24, z => absurd z (by omega), fun i j hi hj e => nodup_inj nd hi hj e, fun i hi => notin_ne nS hi, cc, cS, tS, gS⟩
  obtain ⟨f, fd, F, hm⟩ := d49.ex
  have e := hfa.symm.trans hm
  cases e
  obtain ⟨oc, od, kV, doc, pm, an, cdv, ct, osl, rfl, lk, hcd⟩ := F.ex
  refine ⟨PySem.W.fnOf "law" "law" (defArgs sLaw) (defBody sLaw) (defScope sLaw) .none kV doc pm an cdv ct, fun s v => .of_eq rfl, fun base _ _ => ?_⟩
  have e0 := ei_BadText (P := l.prog) (w := w) (base := base) c0.ec c0.sa c0.nf m0
  have e1 := ei_BadWord (P := l.prog) (w := w) (base := base) c1.ec c1.sa c1.nf m1
  have e2 := ei_BadNumber (P := l.prog) (w := w) (base := base) c2.ec c2.sa c2.nf m2
  have e3 := ei_BadBytes (P := l.prog) (w := w) (base := base) c3.ec c3.sa c3.nf m3
  have e4 := ei_TooMany (P := l.prog) (w := w) (base := base) c4.ec c4.sa c4.nf m4
  have e5 := ei_NoField (P := l.prog) (w := w) (base := base) c5.ec c5.sa c5.nf m5
  have e6 := ei_NoPaper (P := l.prog) (w := w) (base := base) c6.ec c6.sa c6.nf m6
  have e7 := ei_TakenKey (P := l.prog) (w := w) (base := base) c7.ec c7.sa c7.nf m7
  have e8 := ei_Broken (P := l.prog) (w := w) (base := base) c8.ec c8.sa c8.nf m8
  have e10 := ei_NotAscending (P := l.prog) (w := w) (base := base) c10.ec c10.sa c10.nf m10
  have e11 := ei_BadOutput (P := l.prog) (w := w) (base := base) c11.ec c11.sa c11.nf m11
  have e12 := ei_NoPlace (P := l.prog) (w := w) (base := base) c12.ec c12.sa c12.nf m12
  have e13 := ei_BadRows (P := l.prog) (w := w) (base := base) c13.ec c13.sa c13.nf m13
  have e14 := ei_BadLength (P := l.prog) (w := w) (base := base) c14.ec c14.sa c14.nf m14
  have e15 := ei_NoBlock (P := l.prog) (w := w) (base := base) c15.ec c15.sa c15.nf m15
  have e16 := ei_NoFile (P := l.prog) (w := w) (base := base) c16.ec c16.sa c16.nf m16
  have e17 := ei_BadCrash (P := l.prog) (w := w) (base := base) c17.ec c17.sa c17.nf m17
  have e18 := ei_TornFile (P := l.prog) (w := w) (base := base) c18.ec c18.sa c18.nf m18
  have e23 := ei_BadScoring (P := l.prog) (w := w) (base := base) c23.ec c23.sa c23.nf m23
  have nf : ∀ p ∈ pairsL (fun i => [a0, a1, a2, a3, a4, a5, a6, a7, a8, a9, a10, a11, a12, a13, a14, a15, a16, a17, a18, a19, a20, a21, a22, a23].getD i 0), PySem.W.findIn K (.ref p.1) p.2 = some none := by
    intro p hp
    simp only [pairsL, List.mem_cons, List.not_mem_nil, or_false] at hp
    rcases hp with rfl | rfl | rfl | rfl | rfl | rfl | rfl | rfl | rfl | rfl | rfl | rfl | rfl | rfl | rfl | rfl
    · exact c1.nf _ (List.mem_singleton.mpr rfl)
    · exact c3.nf _ (List.mem_singleton.mpr rfl)
    · exact c5.nf _ (List.mem_singleton.mpr rfl)
    · exact c6.nf _ (List.mem_singleton.mpr rfl)
    · exact c7.nf _ (List.mem_singleton.mpr rfl)
    · exact c8.nf _ (List.mem_singleton.mpr rfl)
    · exact c10.nf _ (List.mem_singleton.mpr rfl)
    · exact c11.nf _ (List.mem_singleton.mpr rfl)
    · exact c12.nf _ (List.mem_singleton.mpr rfl)
    · exact c13.nf _ (List.mem_singleton.mpr rfl)
    · exact c14.nf _ (List.mem_singleton.mpr rfl)
    · exact c15.nf _ (List.mem_singleton.mpr rfl)
    · exact c16.nf _ (List.mem_singleton.mpr rfl)
    · exact c17.nf _ (List.mem_singleton.mpr rfl)
    · exact c18.nf _ (List.mem_singleton.mpr rfl)
    · exact c23.nf _ (List.mem_singleton.mpr rfl)
  have Cdraw := ok_draw (P := l.prog) (w := w) (base := base) d41 T
  have Cpick := ok_pick d42 T Cdraw
  have Ctext := ok_Text (P := l.prog) (w := w) (base := base) d7 T TX
  have Csign := ok_Sign (P := l.prog) (w := w) (base := base) d6 T TX
  have Cown := ok_Own (P := l.prog) (w := w) (mg := mg) (base := base) d46
  have Ctold := ok_Told d48 T TX ⟨Csign, Ctext, ok_Word d9 T TX (ok_Row d8 T Ctext), ok_Name d10 T TX, ok_Int d11 T TX, Cown⟩
  exact ok_law F T TX CX ⟨ok_pen d40 T, Cdraw, Cpick, ok_OddV d47 Cdraw Cpick, ok_Single d44 CX nf e1 e3 e5 e6 e7 e8 e10 e11 e12 e13 e14 e15 e16 e17 e18 e23 x9 x19 x20 x21 x22, ok_Cls d43 T TX CX, ok_Field d45, Ctold, ok_Lines d12 T, ok_All d5 TX, Cown, Csign⟩ e0 e2 e4
end Wq
set_option Elab.async false
set_option linter.all false
set_option maxRecDepth 100000
set_option maxHeartbeats 2000000
namespace Wq
open PySem PySem.Spec PyProof.Rows L2
theorem walk {l : PySem.W.OpenLaw} {q : Program} {loose : List Str} {XP : (Str → Option Value) → Heap → Prop} {YP : World → Heap → Prop} {d : DefRec} {K : Params → PySem.W.Frag} (hn : l.most = some 63) (hdf : d.params.defaults = [])
    (hY : ∀ (w : World) (h : Heap), YP w h → (K w.params).In h)
    (F : ∀ (w : World) (mg : Str → Option Value) (fa : Addr) (h : Heap), (K w.params).In h → h.Ns mainGlobals mg → mg d.name = some (.ref fa) →
      ∃ fd : FuncData, (∀ (s : Shared) (u : Value), BindsTo s fd ⟨[u], []⟩ [("_law_script", u)]) ∧ ∀ base : Heap, (K w.params).In base → base.Ns mainGlobals mg → FnG l.prog w (K w.params) mg base CX0 6 fa fd ["_law_script"] (spLaw (K w.params))) :
    PySem.W.WalkO q loose XP YP l.row.toRowW d [] (fun f vs => PySem.call f vs) :=
  walkG (n := 63) (k := 6) (x := "_law_script") (sp := fun w => spLaw (K w.params)) hn (by decide) hdf ⟨rfl, by decide, by decide⟩ hY F (fun _ _ a ns hl hS => ⟨a, ns, rfl, hS, fun _ => rfl⟩)
end Wq
open PySem PySem.W PyProof.Rows
set_option maxRecDepth 100000 in
set_option maxHeartbeats 0 in
theorem PySem.Challenge.cw_wordquarry_k00_errors_and_signs_holds : PySem.Challenge.rw_wordquarry_k00_errors_and_signs.Holds := by
  w_on; o_law; k_head; (case hw => w_witness2)
  k_fill
  refine Wq.walk (l := PySem.Challenge.rw_wordquarry_k00_errors_and_signs) rfl rfl (fun w h Y => PySem.W.kIn_of Y) ?F
  case F =>
    intro w mg fa h KX G hmg
    refine' Wq.all_mk KX G hmg
      ⟨PySem.W.mg_none_of KX G ?z1, PySem.W.mg_none_of KX G ?z2, PySem.W.mg_none_of KX G ?z3, PySem.W.mg_none_of KX G ?z4, PySem.W.mg_none_of KX G ?z5, PySem.W.mg_none_of KX G ?z6⟩
      ⟨PySem.W.mg_none_of KX G ?y1, PySem.W.mg_none_of KX G ?y2, PySem.W.mg_none_of KX G ?y3, PySem.W.mg_none_of KX G ?y4, PySem.W.mg_none_of KX G ?y5, PySem.W.mg_none_of KX G ?y6, ⟨_, PySem.W.mg_of KX G ?s1⟩, ⟨_, PySem.W.mg_of KX G ?s2⟩, ⟨_, PySem.W.mg_of KX G ?s3⟩, ⟨_, PySem.W.mg_of KX G ?s4⟩⟩
      ⟨?cc_hn, ?cc_ht⟩ ?cS ?tS (PySem.W.mg_of KX G ?gS) ?nd ?nS
      ⟨⟨Wq.lx_mk ?wl0, PySem.W.mg_of KX G ?wg0, ?wk0, ?wga0, ?wgg0, ?wha0⟩, ?wsa0, Wq.nf2 ?wn0_0 ?wn0_1⟩ ?wm0
      ⟨⟨Wq.lx_mk ?wl1, PySem.W.mg_of KX G ?wg1, ?wk1, ?wga1, ?wgg1, ?wha1⟩, ?wsa1, Wq.nf1 ?wn1_0⟩ ?wm1
      ⟨⟨Wq.lx_mk ?wl2, PySem.W.mg_of KX G ?wg2, ?wk2, ?wga2, ?wgg2, ?wha2⟩, ?wsa2, Wq.nf2 ?wn2_0 ?wn2_1⟩ ?wm2
      ⟨⟨Wq.lx_mk ?wl3, PySem.W.mg_of KX G ?wg3, ?wk3, ?wga3, ?wgg3, ?wha3⟩, ?wsa3, Wq.nf1 ?wn3_0⟩ ?wm3
      ⟨⟨Wq.lx_mk ?wl4, PySem.W.mg_of KX G ?wg4, ?wk4, ?wga4, ?wgg4, ?wha4⟩, ?wsa4, Wq.nf3 ?wn4_0 ?wn4_1 ?wn4_2⟩ ?wm4
      ⟨⟨Wq.lx_mk ?wl5, PySem.W.mg_of KX G ?wg5, ?wk5, ?wga5, ?wgg5, ?wha5⟩, ?wsa5, Wq.nf1 ?wn5_0⟩ ?wm5
      ⟨⟨Wq.lx_mk ?wl6, PySem.W.mg_of KX G ?wg6, ?wk6, ?wga6, ?wgg6, ?wha6⟩, ?wsa6, Wq.nf1 ?wn6_0⟩ ?wm6
      ⟨⟨Wq.lx_mk ?wl7, PySem.W.mg_of KX G ?wg7, ?wk7, ?wga7, ?wgg7, ?wha7⟩, ?wsa7, Wq.nf1 ?wn7_0⟩ ?wm7
      ⟨⟨Wq.lx_mk ?wl8, PySem.W.mg_of KX G ?wg8, ?wk8, ?wga8, ?wgg8, ?wha8⟩, ?wsa8, Wq.nf1 ?wn8_0⟩ ?wm8
      ⟨Wq.lx_mk ?wl9, PySem.W.mg_of KX G ?wg9, ?wk9, ?wga9, ?wgg9, ?wha9⟩ ?wx9
      ⟨⟨Wq.lx_mk ?wl10, PySem.W.mg_of KX G ?wg10, ?wk10, ?wga10, ?wgg10, ?wha10⟩, ?wsa10, Wq.nf1 ?wn10_0⟩ ?wm10
      ⟨⟨Wq.lx_mk ?wl11, PySem.W.mg_of KX G ?wg11, ?wk11, ?wga11, ?wgg11, ?wha11⟩, ?wsa11, Wq.nf1 ?wn11_0⟩ ?wm11
      ⟨⟨Wq.lx_mk ?wl12, PySem.W.mg_of KX G ?wg12, ?wk12, ?wga12, ?wgg12, ?wha12⟩, ?wsa12, Wq.nf1 ?wn12_0⟩ ?wm12
      ⟨⟨Wq.lx_mk ?wl13, PySem.W.mg_of KX G ?wg13, ?wk13, ?wga13, ?wgg13, ?wha13⟩, ?wsa13, Wq.nf1 ?wn13_0⟩ ?wm13
      ⟨⟨Wq.lx_mk ?wl14, PySem.W.mg_of KX G ?wg14, ?wk14, ?wga14, ?wgg14, ?wha14⟩, ?wsa14, Wq.nf1 ?wn14_0⟩ ?wm14
      ⟨⟨Wq.lx_mk ?wl15, PySem.W.mg_of KX G ?wg15, ?wk15, ?wga15, ?wgg15, ?wha15⟩, ?wsa15, Wq.nf1 ?wn15_0⟩ ?wm15
      ⟨⟨Wq.lx_mk ?wl16, PySem.W.mg_of KX G ?wg16, ?wk16, ?wga16, ?wgg16, ?wha16⟩, ?wsa16, Wq.nf1 ?wn16_0⟩ ?wm16
      ⟨⟨Wq.lx_mk ?wl17, PySem.W.mg_of KX G ?wg17, ?wk17, ?wga17, ?wgg17, ?wha17⟩, ?wsa17, Wq.nf1 ?wn17_0⟩ ?wm17
      ⟨⟨Wq.lx_mk ?wl18, PySem.W.mg_of KX G ?wg18, ?wk18, ?wga18, ?wgg18, ?wha18⟩, ?wsa18, Wq.nf1 ?wn18_0⟩ ?wm18
      ⟨Wq.lx_mk ?wl19, PySem.W.mg_of KX G ?wg19, ?wk19, ?wga19, ?wgg19, ?wha19⟩ ?wx19
      ⟨Wq.lx_mk ?wl20, PySem.W.mg_of KX G ?wg20, ?wk20, ?wga20, ?wgg20, ?wha20⟩ ?wx20
      ⟨Wq.lx_mk ?wl21, PySem.W.mg_of KX G ?wg21, ?wk21, ?wga21, ?wgg21, ?wha21⟩ ?wx21
      ⟨Wq.lx_mk ?wl22, PySem.W.mg_of KX G ?wg22, ?wk22, ?wga22, ?wgg22, ?wha22⟩ ?wx22
      ⟨⟨Wq.lx_mk ?wl23, PySem.W.mg_of KX G ?wg23, ?wk23, ?wga23, ?wgg23, ?wha23⟩, ?wsa23, Wq.nf1 ?wn23_0⟩ ?wm23
      ?d5 ?d6 ?d7 ?d8 ?d9 ?d10 ?d11 ?d12 ?d40 ?d41 ?d42 ?d43 ?d44 ?d45 ?d46 ?d47 ?d48 ?d49
    (case gS => k_is)
    (case wg0 => k_is)
    (case wg1 => k_is)
    (case wg2 => k_is)
    (case wg3 => k_is)
    (case wg4 => k_is)
    (case wg5 => k_is)
    (case wg6 => k_is)
    (case wg7 => k_is)
    (case wg8 => k_is)
    (case wg9 => k_is)
    (case wg10 => k_is)
    (case wg11 => k_is)
    (case wg12 => k_is)
    (case wg13 => k_is)
    (case wg14 => k_is)
    (case wg15 => k_is)
    (case wg16 => k_is)
    (case wg17 => k_is)
    (case wg18 => k_is)
    (case wg19 => k_is)
    (case wg20 => k_is)
    (case wg21 => k_is)
    (case wg22 => k_is)
    (case wg23 => k_is)
    (case d5 => (refine' Wq.def_mk KX G ?a ?l ?c ?k; (case a => k_is); (case l => k_is); (case c => k_is); (case k => k_is)))
    (case d6 => (refine' Wq.def_mk KX G ?a ?l ?c ?k; (case a => k_is); (case l => k_is); (case c => k_is); (case k => k_is)))
    (case d7 => (refine' Wq.def_mk KX G ?a ?l ?c ?k; (case a => k_is); (case l => k_is); (case c => k_is); (case k => k_is)))
    (case d8 => (refine' Wq.def_mk KX G ?a ?l ?c ?k; (case a => k_is); (case l => k_is); (case c => k_is); (case k => k_is)))
    (case d9 => (refine' Wq.def_mk KX G ?a ?l ?c ?k; (case a => k_is); (case l => k_is); (case c => k_is); (case k => k_is)))
    (case d10 => (refine' Wq.def_mk KX G ?a ?l ?c ?k; (case a => k_is); (case l => k_is); (case c => k_is); (case k => k_is)))
    (case d11 => (refine' Wq.def_mk KX G ?a ?l ?c ?k; (case a => k_is); (case l => k_is); (case c => k_is); (case k => k_is)))
    (case d12 => (refine' Wq.def_mk KX G ?a ?l ?c ?k; (case a => k_is); (case l => k_is); (case c => k_is); (case k => k_is)))
    (case d40 => (refine' Wq.def_mk KX G ?a ?l ?c ?k; (case a => k_is); (case l => k_is); (case c => k_is); (case k => k_is)))
    (case d41 => (refine' Wq.def_mk KX G ?a ?l ?c ?k; (case a => k_is); (case l => k_is); (case c => k_is); (case k => k_is)))
    (case d42 => (refine' Wq.def_mk KX G ?a ?l ?c ?k; (case a => k_is); (case l => k_is); (case c => k_is); (case k => k_is)))
    (case d43 => (refine' Wq.def_mk KX G ?a ?l ?c ?k; (case a => k_is); (case l => k_is); (case c => k_is); (case k => k_is)))
    (case d44 => (refine' Wq.def_mk KX G ?a ?l ?c ?k; (case a => k_is); (case l => k_is); (case c => k_is); (case k => k_is)))
    (case d45 => (refine' Wq.def_mk KX G ?a ?l ?c ?k; (case a => k_is); (case l => k_is); (case c => k_is); (case k => k_is)))
    (case d46 => (refine' Wq.def_mk KX G ?a ?l ?c ?k; (case a => k_is); (case l => k_is); (case c => k_is); (case k => k_is)))
    (case d47 => (refine' Wq.def_mk KX G ?a ?l ?c ?k; (case a => k_is); (case l => k_is); (case c => k_is); (case k => k_is)))
    (case d48 => (refine' Wq.def_mk KX G ?a ?l ?c ?k; (case a => k_is); (case l => k_is); (case c => k_is); (case k => k_is)))
    (case d49 => (refine' Wq.def_mk KX G ?a ?l ?c ?k; (case a => k_is); (case l => k_is); (case c => k_is); (case k => k_is)))
    (case wm0 => (refine' Wq.m_mk ?a ?i ?l ?c ?k; (case a => k_is); (case i => k_is); (case l => k_is); (case c => k_is); (case k => k_is)))
    (case wm1 => (refine' Wq.m_mk ?a ?i ?l ?c ?k; (case a => k_is); (case i => k_is); (case l => k_is); (case c => k_is); (case k => k_is)))
    (case wm2 => (refine' Wq.m_mk ?a ?i ?l ?c ?k; (case a => k_is); (case i => k_is); (case l => k_is); (case c => k_is); (case k => k_is)))
    (case wm3 => (refine' Wq.m_mk ?a ?i ?l ?c ?k; (case a => k_is); (case i => k_is); (case l => k_is); (case c => k_is); (case k => k_is)))
    (case wm4 => (refine' Wq.m_mk ?a ?i ?l ?c ?k; (case a => k_is); (case i => k_is); (case l => k_is); (case c => k_is); (case k => k_is)))
    (case wm5 => (refine' Wq.m_mk ?a ?i ?l ?c ?k; (case a => k_is); (case i => k_is); (case l => k_is); (case c => k_is); (case k => k_is)))
    (case wm6 => (refine' Wq.m_mk ?a ?i ?l ?c ?k; (case a => k_is); (case i => k_is); (case l => k_is); (case c => k_is); (case k => k_is)))
    (case wm7 => (refine' Wq.m_mk ?a ?i ?l ?c ?k; (case a => k_is); (case i => k_is); (case l => k_is); (case c => k_is); (case k => k_is)))
    (case wm8 => (refine' Wq.m_mk ?a ?i ?l ?c ?k; (case a => k_is); (case i => k_is); (case l => k_is); (case c => k_is); (case k => k_is)))
    (case wx9 => first | k_exc | k_is | rfl)
    (case wm10 => (refine' Wq.m_mk ?a ?i ?l ?c ?k; (case a => k_is); (case i => k_is); (case l => k_is); (case c => k_is); (case k => k_is)))
    (case wm11 => (refine' Wq.m_mk ?a ?i ?l ?c ?k; (case a => k_is); (case i => k_is); (case l => k_is); (case c => k_is); (case k => k_is)))
    (case wm12 => (refine' Wq.m_mk ?a ?i ?l ?c ?k; (case a => k_is); (case i => k_is); (case l => k_is); (case c => k_is); (case k => k_is)))
    (case wm13 => (refine' Wq.m_mk ?a ?i ?l ?c ?k; (case a => k_is); (case i => k_is); (case l => k_is); (case c => k_is); (case k => k_is)))
    (case wm14 => (refine' Wq.m_mk ?a ?i ?l ?c ?k; (case a => k_is); (case i => k_is); (case l => k_is); (case c => k_is); (case k => k_is)))
    (case wm15 => (refine' Wq.m_mk ?a ?i ?l ?c ?k; (case a => k_is); (case i => k_is); (case l => k_is); (case c => k_is); (case k => k_is)))
    (case wm16 => (refine' Wq.m_mk ?a ?i ?l ?c ?k; (case a => k_is); (case i => k_is); (case l => k_is); (case c => k_is); (case k => k_is)))
    (case wm17 => (refine' Wq.m_mk ?a ?i ?l ?c ?k; (case a => k_is); (case i => k_is); (case l => k_is); (case c => k_is); (case k => k_is)))
    (case wm18 => (refine' Wq.m_mk ?a ?i ?l ?c ?k; (case a => k_is); (case i => k_is); (case l => k_is); (case c => k_is); (case k => k_is)))
    (case wx19 => first | k_exc | k_is | rfl)
    (case wx20 => first | k_exc | k_is | rfl)
    (case wx21 => first | k_exc | k_is | rfl)
    (case wx22 => first | k_exc | k_is | rfl)
    (case wm23 => (refine' Wq.m_mk ?a ?i ?l ?c ?k; (case a => k_is); (case i => k_is); (case l => k_is); (case c => k_is); (case k => k_is)))
    (case nd => decide)
    (case nS => decide)
    (case z1 => first | k_is | rfl)
    (case z2 => first | k_is | rfl)
    (case z3 => first | k_is | rfl)
    (case z4 => first | k_is | rfl)
    (case z5 => first | k_is | rfl)
    (case z6 => first | k_is | rfl)
    (case y1 => first | k_is | rfl)
    (case y2 => first | k_is | rfl)
    (case y3 => first | k_is | rfl)
    (case y4 => first | k_is | rfl)
    (case y5 => first | k_is | rfl)
    (case y6 => first | k_is | rfl)
    (case s1 => first | k_is | rfl)
    (case s2 => first | k_is | rfl)
    (case s3 => first | k_is | rfl)
    (case s4 => first | k_is | rfl)
    (case cc_hn => first | k_is | rfl)
    (case cc_ht => first | k_is | rfl)
    (case cS => first | k_is | rfl)
    (case tS => first | k_is | rfl)
    (case wl0 => first | k_is | rfl)
    (case wk0 => first | k_is | rfl)
    (case wga0 => first | k_is | rfl)
    (case wgg0 => first | k_is | rfl)
    (case wha0 => first | k_is | rfl)
    (case wsa0 => first | k_is | rfl)
    (case wn0_0 => first | k_is | rfl)
    (case wn0_1 => first | k_is | rfl)
    (case wl1 => first | k_is | rfl)
    (case wk1 => first | k_is | rfl)
    (case wga1 => first | k_is | rfl)
    (case wgg1 => first | k_is | rfl)
    (case wha1 => first | k_is | rfl)
    (case wsa1 => first | k_is | rfl)
    (case wn1_0 => first | k_is | rfl)
    (case wl2 => first | k_is | rfl)
    (case wk2 => first | k_is | rfl)
    (case wga2 => first | k_is | rfl)
    (case wgg2 => first | k_is | rfl)
    (case wha2 => first | k_is | rfl)
    (case wsa2 => first | k_is | rfl)
    (case wn2_0 => first | k_is | rfl)
    (case wn2_1 => first | k_is | rfl)
    (case wl3 => first | k_is | rfl)
    (case wk3 => first | k_is | rfl)
    (case wga3 => first | k_is | rfl)
    (case wgg3 => first | k_is | rfl)
    (case wha3 => first | k_is | rfl)
    (case wsa3 => first | k_is | rfl)
    (case wn3_0 => first | k_is | rfl)
    (case wl4 => first | k_is | rfl)
    (case wk4 => first | k_is | rfl)
    (case wga4 => first | k_is | rfl)
    (case wgg4 => first | k_is | rfl)
    (case wha4 => first | k_is | rfl)
    (case wsa4 => first | k_is | rfl)
    (case wn4_0 => first | k_is | rfl)
    (case wn4_1 => first | k_is | rfl)
    (case wn4_2 => first | k_is | rfl)
    (case wl5 => first | k_is | rfl)
    (case wk5 => first | k_is | rfl)
    (case wga5 => first | k_is | rfl)
    (case wgg5 => first | k_is | rfl)
    (case wha5 => first | k_is | rfl)
    (case wsa5 => first | k_is | rfl)
    (case wn5_0 => first | k_is | rfl)
    (case wl6 => first | k_is | rfl)
    (case wk6 => first | k_is | rfl)
    (case wga6 => first | k_is | rfl)
    (case wgg6 => first | k_is | rfl)
    (case wha6 => first | k_is | rfl)
    (case wsa6 => first | k_is | rfl)
    (case wn6_0 => first | k_is | rfl)
    (case wl7 => first | k_is | rfl)
    (case wk7 => first | k_is | rfl)
    (case wga7 => first | k_is | rfl)
    (case wgg7 => first | k_is | rfl)
    (case wha7 => first | k_is | rfl)
    (case wsa7 => first | k_is | rfl)
    (case wn7_0 => first | k_is | rfl)
    (case wl8 => first | k_is | rfl)
    (case wk8 => first | k_is | rfl)
    (case wga8 => first | k_is | rfl)
    (case wgg8 => first | k_is | rfl)
    (case wha8 => first | k_is | rfl)
    (case wsa8 => first | k_is | rfl)
    (case wn8_0 => first | k_is | rfl)
    (case wl9 => first | k_is | rfl)
    (case wk9 => first | k_is | rfl)
    (case wga9 => first | k_is | rfl)
    (case wgg9 => first | k_is | rfl)
    (case wha9 => first | k_is | rfl)
    (case wl10 => first | k_is | rfl)
    (case wk10 => first | k_is | rfl)
    (case wga10 => first | k_is | rfl)
    (case wgg10 => first | k_is | rfl)
    (case wha10 => first | k_is | rfl)
    (case wsa10 => first | k_is | rfl)
    (case wn10_0 => first | k_is | rfl)
    (case wl11 => first | k_is | rfl)
    (case wk11 => first | k_is | rfl)
    (case wga11 => first | k_is | rfl)
    (case wgg11 => first | k_is | rfl)
    (case wha11 => first | k_is | rfl)
    (case wsa11 => first | k_is | rfl)
    (case wn11_0 => first | k_is | rfl)
    (case wl12 => first | k_is | rfl)
    (case wk12 => first | k_is | rfl)
    (case wga12 => first | k_is | rfl)
    (case wgg12 => first | k_is | rfl)
    (case wha12 => first | k_is | rfl)
    (case wsa12 => first | k_is | rfl)
    (case wn12_0 => first | k_is | rfl)
    (case wl13 => first | k_is | rfl)
    (case wk13 => first | k_is | rfl)
    (case wga13 => first | k_is | rfl)
    (case wgg13 => first | k_is | rfl)
    (case wha13 => first | k_is | rfl)
    (case wsa13 => first | k_is | rfl)
    (case wn13_0 => first | k_is | rfl)
    (case wl14 => first | k_is | rfl)
    (case wk14 => first | k_is | rfl)
    (case wga14 => first | k_is | rfl)
    (case wgg14 => first | k_is | rfl)
    (case wha14 => first | k_is | rfl)
    (case wsa14 => first | k_is | rfl)
    (case wn14_0 => first | k_is | rfl)
    (case wl15 => first | k_is | rfl)
    (case wk15 => first | k_is | rfl)
    (case wga15 => first | k_is | rfl)
    (case wgg15 => first | k_is | rfl)
    (case wha15 => first | k_is | rfl)
    (case wsa15 => first | k_is | rfl)
    (case wn15_0 => first | k_is | rfl)
    (case wl16 => first | k_is | rfl)
    (case wk16 => first | k_is | rfl)
    (case wga16 => first | k_is | rfl)
    (case wgg16 => first | k_is | rfl)
    (case wha16 => first | k_is | rfl)
    (case wsa16 => first | k_is | rfl)
    (case wn16_0 => first | k_is | rfl)
    (case wl17 => first | k_is | rfl)
    (case wk17 => first | k_is | rfl)
    (case wga17 => first | k_is | rfl)
    (case wgg17 => first | k_is | rfl)
    (case wha17 => first | k_is | rfl)
    (case wsa17 => first | k_is | rfl)
    (case wn17_0 => first | k_is | rfl)
    (case wl18 => first | k_is | rfl)
    (case wk18 => first | k_is | rfl)
    (case wga18 => first | k_is | rfl)
    (case wgg18 => first | k_is | rfl)
    (case wha18 => first | k_is | rfl)
    (case wsa18 => first | k_is | rfl)
    (case wn18_0 => first | k_is | rfl)
    (case wl19 => first | k_is | rfl)
    (case wk19 => first | k_is | rfl)
    (case wga19 => first | k_is | rfl)
    (case wgg19 => first | k_is | rfl)
    (case wha19 => first | k_is | rfl)
    (case wl20 => first | k_is | rfl)
    (case wk20 => first | k_is | rfl)
    (case wga20 => first | k_is | rfl)
    (case wgg20 => first | k_is | rfl)
    (case wha20 => first | k_is | rfl)
    (case wl21 => first | k_is | rfl)
    (case wk21 => first | k_is | rfl)
    (case wga21 => first | k_is | rfl)
    (case wgg21 => first | k_is | rfl)
    (case wha21 => first | k_is | rfl)
    (case wl22 => first | k_is | rfl)
    (case wk22 => first | k_is | rfl)
    (case wga22 => first | k_is | rfl)
    (case wgg22 => first | k_is | rfl)
    (case wha22 => first | k_is | rfl)
    (case wl23 => first | k_is | rfl)
    (case wk23 => first | k_is | rfl)
    (case wga23 => first | k_is | rfl)
    (case wgg23 => first | k_is | rfl)
    (case wha23 => first | k_is | rfl)
    (case wsa23 => first | k_is | rfl)
    (case wn23_0 => first | k_is | rfl)
