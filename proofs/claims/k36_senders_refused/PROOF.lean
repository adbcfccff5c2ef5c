import PyProof.Rows.All
import Wide.All
import OpenK.AllK
import Wide.FinOn
import PyProof.EqAt
import PyProof.EqKinds
import PyProof.TupleCall
import HandS.Base
import HandS.Call
import HandS.List
import HandS.Comp
import HandS.Ends
import HandS.Wide
import HandS.ForMost
import HandS.NoneIn
import HandS.TupAny
import HandS.IsInst
import HandS.Deep
import HandS.RaiseMore
import HandS.TupLe
import KE.DatumIndex
import HandS.Walk
import HandS.FStrTup
import HandS.WrittenGet
import HandS.Style
import HandS.TupMul
import KE.SortKeyHeap
import HandS.SortKw
import HandS.Keys
import KE.DataFind
import KE.DataCmp
import HandS.Strs
import KE.KExcSuper
import PyProof.FString
import HandS.Exc
import HandS.ExcOwn
import HandS.ExcSuper
import HandS.TryMany
import HandS.ExcField
import HandS.GenList
import HandS.Zip
import KE.KDictZip
import KE.GoesMore
import KE.GoesZip
import HandS.MakeKwOnly
import KE.KIsAll
import KE.RegKTryMore
import PySem.Challenge.RW_cutrelays_k36_senders_refused
set_option Elab.async false
set_option linter.all false
set_option maxRecDepth 100000
set_option maxHeartbeats 4000000
namespace Cr
open PySem PySem.Spec PyProof.Rows L2

/-! ## a def's promise where nothing is being shown (guards known to be none) -/
structure FnG (P : Program) (w : World) (K : PySem.W.Frag) (mg : Str → Option Value) (base : Heap) (k : Nat) (f : Addr) (fd : FuncData) (ps : List Str) (sp : Sp) : Prop where
  len : ∀ vs H Q E, sp vs H Q E → vs.length = ps.length
  run : ∀ (A : Around) (fr : List Env) (s : Shared) (H : Hp) (args : Args) (us : List Value) (vs : List V) (Q : VK) (E : XK), A.guards = some [] → Room k A → Env0 P w K mg base A fr s H →
    BindsTo s fd args (ps.zip us) → Vals vs us → sp vs H Q E → codeAny (model P w) A (.call (.ref f) args) (CR (fun _ _ _ _ _ _ => False) fr P w H s Q E) s
abbrev CXn : CXT := fun _ _ _ _ _ _ => False
section
variable {P : Program} {w : World} {K : PySem.W.Frag} {mg : Str → Option Value} {base : Heap} {k : Nat} {f : Addr} {fd : FuncData} {ps : List Str} {sp : Sp}
theorem FnG.up {j : Nat} (F : FnG P w K mg base j f fd ps sp) (h : j ≤ k) : FnG P w K mg base k f fd ps sp :=
  ⟨F.len, fun A fr s H args us vs Q E g hr => F.run A fr s H args us vs Q E g (hr.mono h)⟩
theorem FnG.weaker {sp' : Sp} (F : FnG P w K mg base k f fd ps sp) (h : ∀ vs H Q E, sp' vs H Q E → sp vs H Q E) : FnG P w K mg base k f fd ps sp' :=
  ⟨fun vs H Q E z => F.len vs H Q E (h _ _ _ _ z), fun A fr s H args us vs Q E g hr e0 hb r z => F.run A fr s H args us vs Q E g hr e0 hb r (h _ _ _ _ z)⟩

/-- a def by its body -/
theorem fnG_of {name qual : Str} {params : Arguments} {body : List Stmt} {scope : Scope} {dV kV doc pm cdv ct oc : Value} {an od : Option Addr} {osl : Array (Option Value)} {N : List Str}
    (lk : K.lookup f = some ⟨oc, od, .func (PySem.W.fnOf name qual params body scope dV kV doc pm an cdv ct), osl⟩) (cdIn : PySem.W.codeIn K cdv qual = true) (S : FnScope N ps scope)
    (len : ∀ vs H Q E, sp vs H Q E → vs.length = ps.length)
    (body_ok : ∀ (A : Around) (fr : List Env) (s : Shared) (H : Hp) (vs : List V) (Q : VK) (E : XK), A.guards = some [] → Room k (A.deeper (envOfC qual scope s.heap.objs.size f cdv)) → sp vs H Q E →
      ∃ t, PSs (cxOf CXn P w K mg base N qual scope f cdv A fr s H E) body t ∧ t { nx := fun _ H' => Q .non H', rt := Q } (start N vs) H) :
    FnG P w K mg base (k + 1) f (PySem.W.fnOf name qual params body scope dV kV doc pm an cdv ct) ps sp := by
  constructor
  · exact len
  intro A fr s H args us vs Q E g0 room env0 binds rel hsp
  have len1 := len _ _ _ _ hsp
  have kin : K.In s.heap := env0.mod.kin.keeps fun b o z => (env0.bs b o z).1
  have nolim : s.heap.NoLimit := env0.mod.nolimit.keeps fun b o z => (env0.bs b o z).1
  have kinds : ∀ y ∈ ps.zip us, scope.names.lookup y.1 = some .local ∨ (scope.names.lookup y.1 = some .cell ∧ ((cellsFrom (s.heap.objs.size + 1) scope.names []).lookup y.1).isSome = true) := by
    rintro ⟨n, v⟩ hy
    cases S.par n (List.of_mem_zip hy).1 with
    | inl q => exact Or.inl q
    | inr q => exact Or.inr ⟨q, PySem.W.cellsFrom_some _ _ _ (Or.inl q)⟩
  apply codeAny_call_function room.depth (kin _ _ lk) rfl S.co S.gen rfl (PySem.W.codeRec_of kin cdIn) (binds _ _ _ _ ?_)
  apply wpAny_newFunctionEnv_cells S.kind kinds
  intro env henv s1 x
  cases henv
  refine ⟨nolim.keeps x.toInCall.keep, codeAny_func ?_⟩
  obtain ⟨t, ht, hq⟩ := body_ok A fr s H vs Q E g0 (room.deeper _) hsp
  have I0 : Inv (cxOf CXn P w K mg base N qual scope f cdv A fr s H E) [] (start N vs) H s1 := inv_start S room.hd env0 len1 rel x
  refine wpAny_mono (ht.run [] s1 (start N vs) H _ I0 hq) ?_ (fun e s' hs => hs)
  intro fl s' hs
  match fl, hs with
  | .ret u, ⟨v, _, H', J, rv, q⟩ => exact ⟨v, H', J.os, J.bare, J.base, J.hok, rv, q⟩
  | .next, ⟨_, H', J, q⟩ => exact ⟨V.non, H', J.os, J.bare, J.base, J.hok, rfl, q⟩
  | .brk, ⟨_, _, _, q⟩ => exact q.elim
  | .cont, ⟨_, _, _, q⟩ => exact q.elim
end
section
variable {X : Cx} {k : Nat} {f : Addr} {fd : FuncData} {ps : List Str} {sp : Sp} {dvs : List V} {ds : List Value} {E : XK} {x : Str} {p pos : Pos} {e : Expr} {es : List Expr} {t : TA}
theorem runG {pins : List (Addr × Obj)} {σ : L2.St} {H : Hp} {s : Shared} {Q : VK} {us : List Value} {vs : List V} (F : FnG X.prog X.w X.K X.mg X.base k f fd ps sp) (hg : X.A.guards = some []) (hr : Room k X.A) (hb : Binds X.K fd ps ds) (hd : Vals dvs ds)
    (I : Inv X pins σ H s) (r : Vals vs us) (h : sp (vs ++ dvs) H Q E) : wpAny (model X.prog X.w) X.A (call (.ref f) us) (EP X pins σ Q) X.xe s := by
  have rr := r.append hd
  have ll : (us ++ ds).length = ps.length := rr.length.symm.trans (F.len _ _ _ _ h)
  apply wpAny_call
  refine codeAny_mono (F.run X.A X.stack s H ⟨us, []⟩ (us ++ ds) (vs ++ dvs) Q E hg hr I.env0 (hb s us I.kIn ll) rr h) ?_
  intro res s' hq
  match res, hq with
  | .ok (.ret u), hq => exact I.after hq
theorem pe_callG (F : FnG X.prog X.w X.K X.mg X.base k f fd ps sp) (hg : X.A.guards = some []) (hr : Room k X.A) (gl : Gl X x) (hm : X.mg x = some (.ref f)) (hk : PySem.W.keepIn X.K (.ref f) = true) (hb : Binds X.K fd ps ds) (hd : Vals dvs ds)
    (ha : PA X (e :: es) t) (E : XK) (hdb : (x == ("__debug__" : Str)) = false := by decide) (st : starEach (e :: es) X.env = (false, eval e X.env) :: starEach es X.env := by rfl) (pl : (backTo pos (starEach es X.env)).any (·.1) = false := by rfl) :
    PE X (.Call (.Name x p) (e :: es) [] pos) (tCall sp dvs E t) := by
  constructor
  intro pins s σ H Q I h
  apply wpAny_Call_Name_kw (ld_glob I gl hm ?_ hdb)
  refine PySem.W.callWith_K (h₀ := X.base) I.ok.mod.kin hk (thn (ha.run pos pins s σ H _ I h) ?_) st pl
  rintro us s1 ⟨vs, H1, I1, r, q⟩
  exact ⟨I1.kIn, runG (E := E) F hg hr hb hd I1 r q⟩
theorem pe_callG0 (F : FnG X.prog X.w X.K X.mg X.base k f fd ps sp) (hg : X.A.guards = some []) (hr : Room k X.A) (gl : Gl X x) (hm : X.mg x = some (.ref f)) (hk : PySem.W.keepIn X.K (.ref f) = true) (hb : Binds X.K fd ps ds) (hd : Vals dvs ds)
    (E : XK) (hdb : (x == ("__debug__" : Str)) = false := by decide) : PE X (.Call (.Name x p) [] [] pos) (tCall sp dvs E tNil) := by
  constructor
  intro pins s σ H Q I h
  apply wpAny_Call_Name_kw (ld_glob I gl hm ?_ hdb)
  exact PySem.W.callWith_K0 I.kIn hk (runG (E := E) (us := []) F hg hr hb hd I .nil h)
end

/-! ## the law's own call -/
section
variable {P : Program} {w : World} {K : PySem.W.Frag} {mg mb : Str → Option Value} {k : Nat} {fa a : Addr} {fd : FuncData} {x : Str} {sp : Sp} {s₁ : Shared} {vs : List Value} {ns : List Int}
abbrev LawEnd (s₁ : Shared) : Result → Shared → Prop := fun r s' => r = .ok (.ret (.bool true)) ∧ OldK s₁.heap s'.heap ∧ s'.os = s₁.os ∧ AllBare s'.gens
theorem lawG (kin : K.In s₁.heap) (hns : s₁.heap.Ns mainGlobals mg) (hb : s₁.heap.Ns builtinsNs mb) (hbb : ∀ x : Str, x ≠ "__name__" → mb x = bootBuiltins x) (nolim : s₁.heap.NoLimit) (ng : s₁.gens = #[])
    (ha : s₁.heap.get? a = some { cls := .type "list", data := .seq vs.toArray }) (intsOk : IntsAre vs ns) (short : ns.length ≤ sizeLine) (hr : Room k callerA)
    (F : ∀ base : Heap, K.In base → base.Ns mainGlobals mg → FnG P w K mg base k fa fd [x] sp) (binds : ∀ (s : Shared) (u : Value), BindsTo s fd ⟨[u], []⟩ [(x, u)])
    (hsp : ∀ H : Hp, Only H → SqL K H a (ns.map V.int) → sp [.ref a] H (fun v _ => v = .bl true) fun _ _ _ => False) :
    codeAny (model P w) callerA (.call (.ref fa) ⟨[.ref a], []⟩) (LawEnd s₁) s₁ := by
  have rel := vals_ints intsOk
  have ll := intsOk.length
  -- the promise, from a heap that knows the script at most
  have main : ∀ H : Hp, Only H → SqL K H a (ns.map V.int) → HOk P w H s₁.heap → (∀ b, H b ≠ none → b = a ∧ K.lookup a = none) → codeAny (model P w) callerA (.call (.ref fa) ⟨[.ref a], []⟩) (LawEnd s₁) s₁ := by
    intro H only sq ok atA
    have isA : ∀ {b : Addr} {u : HO}, H b = some u → b = a ∧ K.lookup a = none := fun {b u} z => atA b (by rw [z]; exact fun c => nomatch c)
    have hid : ∀ {b : Addr} {m : Str → Option Value}, s₁.heap.Ns b m → (hidT s₁.heap H).Ns b m := by
      rintro b m ⟨o, es, ep, z, d, rr⟩
      refine ⟨o, es, ep, hidT_get z ?_, d, rr⟩
      match hq : H b with
      | none => rfl
      | some u =>
        have hba := (isA hq).1
        rw [hba, ha] at z
        cases z
        exact absurd (show Data.seq vs.toArray _ = Data.dict es ep from d) (fun c => nomatch c)
    have kin' : K.In (hidT s₁.heap H) := by
      intro b o z
      refine hidT_get (kin b o z) ?_
      match hq : H b with
      | none => rfl
      | some u =>
        obtain ⟨e1, e2⟩ := isA hq
        rw [e1, e2] at z
        cases z
    have md : Mod K mg (hidT s₁.heap H) := by
      obtain ⟨mc, l1, l2⟩ := nolim
      exact ⟨kin', hid hns, ⟨mb, hid hb, hbb⟩, ⟨mc, hid l1, l2⟩⟩
    have env0 : Env0 P w K mg (hidT s₁.heap H) callerA [] s₁ H :=
      ⟨rfl, md, fun b o z => of_hidT z, Nat.le_of_eq (hidT_size _ _), trivial, (fun b z => nomatch (show b ∈ ([] : List Addr) from z)), ok, .of_eq ng⟩
    refine codeAny_mono ((F _ kin' (hid hns)).run callerA [] s₁ H ⟨[.ref a], []⟩ [.ref a] [.ref a] _ _ rfl hr env0 (binds s₁ (.ref a)) (.cons rfl .nil) (hsp H only sq)) ?_
    intro res s' hres
    match res, hres with
    | .ok (.ret u), ⟨v, H', os', bare', un', ok', rv, isT⟩ =>
      cases (show v = .bl true from isT)
      cases (show u = Value.bool true from rv)
      refine ⟨rfl, OldK.of_keep ?_, os', bare'⟩
      intro b o z
      match hq : H b with
      | none => exact un'.keep b o z hq (fun c => nomatch (show b ∈ ([] : List Addr) from c)) (fun c => nomatch c)
      | some u =>
        rcases only b with c | ⟨ob, xs, c⟩
        · rw [hq] at c
          cases c
        · have now := (ok' b _ (un'.frzs b ob _ c)).1
          have was := (ok b _ c).1
          rw [z] at was
          cases was
          exact now
  by_cases hk : K.lookup a = none
  · let H₀ : Hp := fun b => if b = a then some (.frz { cls := .type "list", data := .seq vs.toArray } (.lst (ns.map V.int))) else none
    have at0 : ∀ {b u}, H₀ b = some u → b = a ∧ u = .frz { cls := .type "list", data := .seq vs.toArray } (.lst (ns.map V.int)) := by
      intro b u z
      by_cases c : b = a
      · exact ⟨c, (Option.some.inj ((if_pos c).symm.trans z)).symm⟩
      · exact nomatch (if_neg c).symm.trans z
    refine main H₀ (fun b => ?_) (Or.inl (Or.inr ⟨_, if_pos rfl⟩)) (fun b u z => ?_) (fun b z => ?_)
    · by_cases c : b = a
      · exact Or.inr ⟨_, _, if_pos c⟩
      · exact Or.inl (if_neg c)
    · obtain ⟨e1, e2⟩ := at0 z
      rw [e1, e2]
      exact ⟨ha, by rw [List.length_map]; exact short, vs, _, rel, ha⟩
    · match hq : H₀ b with
      | none => exact absurd hq z
      | some u => exact ⟨(at0 hq).1, hk⟩
  · obtain ⟨o, ho⟩ := Option.ne_none_iff_exists'.mp hk
    have z := kin a o ho
    rw [ha] at z
    cases z
    exact main (fun _ => none) (fun _ => Or.inl rfl) (Or.inr ⟨_, vs.toArray, _, ho, rfl, rfl, rfl, by rw [List.size_toArray, ll]; exact short, by simpa using rel⟩)
      (fun b u c => nomatch (show (none : Option HO) = some u from c)) (fun b c => absurd rfl c)
end
/-- the goal behind the head, from the law's promise -/
theorem walkG {l : PySem.W.OpenLaw} {n k : Nat} {q : Program} {loose : List Str} {XP : (Str → Option Value) → Heap → Prop} {YP : World → Heap → Prop} {d : DefRec} {K : Params → PySem.W.Frag} {sp : PySem.W.Frag → Sp} {x : Str}
    (most : l.most = some n) (most' : n ≤ sizeLine) (nodef : d.params.defaults = []) (room : Room k callerA) (kin : ∀ (w : World) (h : Heap), YP w h → (K w.params).In h)
    (F : ∀ (w : World) (mg : Str → Option Value) (fa : Addr) (h : Heap), (K w.params).In h → h.Ns mainGlobals mg → mg d.name = some (.ref fa) →
      ∃ fd : FuncData, (∀ (s : Shared) (u : Value), BindsTo s fd ⟨[u], []⟩ [(x, u)]) ∧ ∀ base : Heap, (K w.params).In base → base.Ns mainGlobals mg → FnG l.prog w (K w.params) mg base k fa fd [x] (sp (K w.params)))
    (hsp : ∀ (K : PySem.W.Frag) (H : Hp) (a : Addr) (ns : List Int), ns.length ≤ n → Only H → SqL K H a (ns.map V.int) → sp K [.ref a] H (fun v _ => v = .bl true) fun _ _ _ => False) :
    PySem.W.WalkO q loose XP YP l.row.toRowW d [] (fun f vs => PySem.call f vs) := by
  refine Att.attach_call most nodef ?_
  intro w s₀ s₁ mg mb fa o pm cd doc a vs ns G Y ho hd hcd hmg hobj hints hlen hg
  have kk := kin w _ Y
  obtain ⟨fd, bb, FF⟩ := F w mg fa _ kk G.T.g hmg
  exact lawG kk G.T.g G.T.b G.T.builtins G.T.nolimit hg hobj hints (Nat.le_trans hlen most') room FF bb (fun H only sq => hsp _ H a ns hlen only sq)
end Cr

set_option Elab.async false
set_option linter.all false
set_option maxRecDepth 100000
set_option maxHeartbeats 4000000
namespace Cr
open PySem PySem.Spec PyProof.Rows L2

/-! ## worlds: what may change, and what holds of it -/
structure Wd where
  M : Addr → Prop
  I : Hp → Prop
  has : ∀ H a, I H → M a → H a ≠ none
  loc : ∀ H H', I H → (∀ a, M a → H' a = H a) → I H'
theorem Wd.mono (W : Wd) (H H' : Hp) (i : W.I H) (x : ∀ a o, H a = some o → H' a = some o) : W.I H' := W.loc H H' i fun a m => by
  match hq : H a with
  | none => exact absurd hq (W.has H a i m)
  | some o => exact x a o hq
def Wx (W : Wd) (H H' : Hp) : Prop := ∀ a o, ¬ W.M a → H a = some o → H' a = some o
theorem Wx.refl (W : Wd) (H : Hp) : Wx W H H := fun _ _ _ h => h
theorem Wx.trans {W : Wd} {H H1 H2 : Hp} (a : Wx W H H1) (b : Wx W H1 H2) : Wx W H H2 := fun p o n h => b p o n (a p o n h)
/-- nothing changes -/
def w0 : Wd := ⟨fun _ => False, fun _ => True, fun _ _ _ h => h.elim, fun _ _ _ _ => trivial⟩
def Xt (H H' : Hp) : Prop := ∀ a o, H a = some o → H' a = some o
theorem Xt.refl (H : Hp) : Xt H H := fun _ _ h => h
theorem Xt.trans {H H1 H2 : Hp} (a : Xt H H1) (b : Xt H1 H2) : Xt H H2 := fun p o h => b p o (a p o h)
theorem Xt.wx {H H' : Hp} (W : Wd) (a : Xt H H') : Wx W H H' := fun p o _ h => a p o h
theorem Xt.new {H : Hp} {p : Addr} {o : HO} (h : H p = none) : Xt H (upd H p o) := fun a u z => by
  rw [upd_ne (ne_of_none z h)]
  exact z
theorem wx0 {H H' : Hp} (a : Wx w0 H H') : Xt H H' := fun p o h => a p o (fun z => z) h
theorem Wd.new {W : Wd} {H : Hp} {p : Addr} {o : HO} (i : W.I H) (h : H p = none) : ¬ W.M p ∧ Wx W H (upd H p o) ∧ W.I (upd H p o) :=
  ⟨fun m => W.has H p i m h, (Xt.new h).wx W, W.mono _ _ i (Xt.new h)⟩

/-! ## data in the heap -/
def LA (W : Wd) (_ : PySem.W.Frag) (H : Hp) (a : Addr) (xs : List V) : Prop := ¬ W.M a ∧ H a = some (.lst xs)
def TA' (W : Wd) (K : PySem.W.Frag) (H : Hp) (a : Addr) (xs : List V) : Prop := (¬ W.M a ∧ H a = some (.tup xs)) ∨ SqT K (fun _ => none) a xs
section
variable {W W' : Wd} {K : PySem.W.Frag} {H H' : Hp} {a : Addr} {xs : List V}
theorem rd_none {u : HO} (h : Rd (fun _ => none) a u) : False := by
  rcases h with h | ⟨o, h⟩
  · exact nomatch (show (none : Option HO) = some u from h)
  · exact nomatch (show (none : Option HO) = some (.frz o u) from h)
theorem LA.sq (h : LA W K H a xs) : SqL K H a xs := SqL.of h.2
theorem TA'.sq (h : TA' W K H a xs) : SqT K H a xs := by
  rcases h with ⟨_, h⟩ | h
  · exact SqT.of h
  · rcases h with h | h
    · exact (rd_none h).elim
    · exact Or.inr h
theorem LA.mono (x : Wx W H H') (h : LA W K H a xs) : LA W K H' a xs := ⟨h.1, x _ _ h.1 h.2⟩
theorem TA'.mono (x : Wx W H H') (h : TA' W K H a xs) : TA' W K H' a xs := h.imp (fun ⟨n, z⟩ => ⟨n, x _ _ n z⟩) id
end
def keyD : Key → PyData
  | .inl i => .int i
  | .inr x => .str x
mutual
inductive Dn (W : Wd) (K : PySem.W.Frag) (H : Hp) : V → PyData → Prop
  | non : Dn W K H .non .none
  | bl (b : Bool) : Dn W K H (.bl b) (.bool b)
  | int (i : Int) : Dn W K H (.int i) (.int i)
  | str (x : Str) : Dn W K H (.str x) (.str x)
  | lst {a : Addr} {xs : List V} {ds : List PyData} (h : LA W K H a xs) (r : DnAll W K H xs ds) : Dn W K H (.ref a) (.list ds)
  | tup {a : Addr} {xs : List V} {ds : List PyData} (h : TA' W K H a xs) (r : DnAll W K H xs ds) : Dn W K H (.ref a) (.tuple ds)
  | dct {a : Addr} {kvs : List (Key × V)} {es : List (PyData × PyData)} (n : ¬ W.M a) (h : H a = some (.dK kvs)) (r : DnKv W K H kvs es) : Dn W K H (.ref a) (.dict es)
inductive DnAll (W : Wd) (K : PySem.W.Frag) (H : Hp) : List V → List PyData → Prop
  | nil : DnAll W K H [] []
  | cons {v : V} {vs : List V} {d : PyData} {ds : List PyData} (h : Dn W K H v d) (t : DnAll W K H vs ds) : DnAll W K H (v :: vs) (d :: ds)
inductive DnKv (W : Wd) (K : PySem.W.Frag) (H : Hp) : List (Key × V) → List (PyData × PyData) → Prop
  | nil : DnKv W K H [] []
  | cons {k : Key} {v : V} {kvs : List (Key × V)} {d : PyData} {es : List (PyData × PyData)} (h : Dn W K H v d) (t : DnKv W K H kvs es) : DnKv W K H ((k, v) :: kvs) ((keyD k, d) :: es)
end
section
variable {W : Wd} {K : PySem.W.Frag} {H H' : Hp}
mutual
theorem Dn.mono (x : Wx W H H') : ∀ {d : PyData} {v : V}, Dn W K H v d → Dn W K H' v d
  | .none, _, h => by cases h; exact .non
  | .bool _, _, h => by cases h; exact .bl _
  | .int _, _, h => by cases h; exact .int _
  | .str _, _, h => by cases h; exact .str _
  | .list ds, _, h => by
    cases h with
    | lst a r => exact .lst (a.mono x) (DnAll.mono x r)
  | .tuple ds, _, h => by
    cases h with
    | tup a r => exact .tup (a.mono x) (DnAll.mono x r)
  | .dict es, _, h => by
    cases h with
    | dct n a r => exact .dct n (x _ _ n a) (DnKv.mono x r)
theorem DnAll.mono (x : Wx W H H') : ∀ {ds : List PyData} {vs : List V}, DnAll W K H vs ds → DnAll W K H' vs ds
  | [], _, h => by cases h; exact .nil
  | d :: ds, _, h => by
    cases h with
    | cons a t => exact .cons (Dn.mono x a) (DnAll.mono x t)
theorem DnKv.mono (x : Wx W H H') : ∀ {es : List (PyData × PyData)} {kvs : List (Key × V)}, DnKv W K H kvs es → DnKv W K H' kvs es
  | [], _, h => by cases h; exact .nil
  | (_, d) :: es, _, h => by
    cases h with
    | cons a t => exact .cons (Dn.mono x a) (DnKv.mono x t)
end
theorem DnAll.length : ∀ {ds : List PyData} {vs : List V}, DnAll W K H vs ds → vs.length = ds.length
  | [], _, .nil => rfl
  | _ :: _, _, .cons _ t => congrArg (· + 1) (DnAll.length t)
theorem DnAll.get : ∀ {ds : List PyData} {vs : List V} {i : Nat} {d : PyData}, DnAll W K H vs ds → ds[i]? = some d → ∃ v, vs[i]? = some v ∧ Dn W K H v d
  | [], _, i, _, _, e => by simp at e
  | x :: ds, _, i, d, h, e => by
    cases h with
    | cons a t =>
      cases i with
      | zero =>
        cases e
        exact ⟨_, rfl, a⟩
      | succ i => exact DnAll.get (i := i) t e
theorem DnAll.getV : ∀ {ds : List PyData} {vs : List V} {i : Nat} {v : V}, DnAll W K H vs ds → vs[i]? = some v → ∃ d, ds[i]? = some d ∧ Dn W K H v d
  | [], _, i, _, h, e => by
    cases h
    simp at e
  | x :: ds, _, i, d, h, e => by
    cases h with
    | cons a t =>
      cases i with
      | zero =>
        cases e
        exact ⟨_, rfl, a⟩
      | succ i => exact DnAll.getV (i := i) t e
theorem DnAll.append : ∀ {ds es : List PyData} {vs us : List V}, DnAll W K H vs ds → DnAll W K H us es → DnAll W K H (vs ++ us) (ds ++ es)
  | [], _, _, _, .nil, h => h
  | _ :: _, _, _, _, .cons a t, h => .cons a (DnAll.append t h)
theorem DnAll.take : ∀ {ds : List PyData} {vs : List V} (n : Nat), DnAll W K H vs ds → DnAll W K H (vs.take n) (ds.take n)
  | _, _, 0, _ => .nil
  | [], _, _ + 1, .nil => .nil
  | _ :: _, _, n + 1, .cons a t => .cons a (DnAll.take n t)
theorem DnAll.drop : ∀ {ds : List PyData} {vs : List V} (n : Nat), DnAll W K H vs ds → DnAll W K H (vs.drop n) (ds.drop n)
  | _, _, 0, h => h
  | [], _, _ + 1, .nil => .nil
  | _ :: _, _, n + 1, .cons _ t => DnAll.drop n t
theorem DnAll.rep {ds : List PyData} {vs : List V} (h : DnAll W K H vs ds) : ∀ n : Nat, DnAll W K H (List.replicate n vs).flatten (List.replicate n ds).flatten
  | 0 => .nil
  | n + 1 => by
    rw [List.replicate_succ, List.replicate_succ, List.flatten_cons, List.flatten_cons]
    exact h.append (DnAll.rep h n)
theorem DnAll.reverse {ds : List PyData} {vs : List V} (h : DnAll W K H vs ds) : DnAll W K H vs.reverse ds.reverse := by
  induction ds generalizing vs with
  | nil => cases h; exact .nil
  | cons d ds ih =>
    cases h with
    | cons a t =>
      rw [List.reverse_cons, List.reverse_cons]
      exact (ih t).append (.cons a .nil)
end
mutual
def noDict : PyData → Bool
  | .none | .bool _ | .int _ | .str _ => true
  | .list xs | .tuple xs => noDictAll xs
  | .dict _ => false
def noDictAll : List PyData → Bool
  | [] => true
  | x :: xs => noDict x && noDictAll xs
end
section
variable {X : Cx} {pins : List (Addr × Obj)} {σ : L2.St} {H : Hp} {s : Shared} {W : Wd}
mutual
theorem Dn.dp {K : PySem.W.Frag} : ∀ {d : PyData} {v : V}, Dn W K H v d → noDict d = true → Dp K H v d
  | .none, _, h, _ => by cases h; exact .non
  | .bool _, _, h, _ => by cases h; exact .bl _
  | .int _, _, h, _ => by cases h; exact .int _
  | .str _, _, h, _ => by cases h; exact .str _
  | .list ds, _, h, n => by
    cases h with
    | lst a r => exact .lst a.sq (DnAll.dp r (by simpa [noDict] using n))
  | .tuple ds, _, h, n => by
    cases h with
    | tup a r => exact .tup a.sq (DnAll.dp r (by simpa [noDict] using n))
  | .dict _, _, _, n => by simp [noDict] at n
theorem DnAll.dp {K : PySem.W.Frag} : ∀ {ds : List PyData} {vs : List V}, DnAll W K H vs ds → noDictAll ds = true → DpAll K H vs ds
  | [], _, h, _ => by cases h; exact .nil
  | d :: ds, _, h, n => by
    have n2 : noDict d = true ∧ noDictAll ds = true := by simpa [noDictAll] using n
    cases h with
    | cons a t => exact .cons (Dn.dp a n2.1) (DnAll.dp t n2.2)
end
end
mutual
theorem noDict_has : ∀ d : PyData, noDict d = true → d.hasDict = false
  | .none, _ => by simp only [PyData.hasDict]
  | .bool _, _ => by simp only [PyData.hasDict]
  | .int _, _ => by simp only [PyData.hasDict]
  | .str _, _ => by simp only [PyData.hasDict]
  | .list xs, n => by
    simp only [PyData.hasDict]
    exact noDict_hasAll xs (by simpa [noDict] using n)
  | .tuple xs, n => by
    simp only [PyData.hasDict]
    exact noDict_hasAll xs (by simpa [noDict] using n)
  | .dict _, n => by simp [noDict] at n
theorem noDict_hasAll : ∀ xs : List PyData, noDictAll xs = true → PyData.hasDictAll xs = false
  | [], _ => by simp only [PyData.hasDictAll]
  | x :: xs, n => by
    have n2 : noDict x = true ∧ noDictAll xs = true := by simpa [noDictAll] using n
    simp only [PyData.hasDictAll, noDict_has x n2.1, noDict_hasAll xs n2.2, Bool.or_self]
end

/-! ## slots -/
inductive Sl where
  | dat (d : PyData)
  | raw (v : V)
  | any
  | ml (p : Addr) (us : List V) (ds : List PyData)
def Dv (W : Wd) (K : PySem.W.Frag) (H : Hp) (o : Option V) : Sl → Prop
  | .dat d => ∃ v, o = some v ∧ Dn W K H v d
  | .raw v => o = some v
  | .any => True
  | .ml p us ds => o = some (.ref p) ∧ DnAll W K H us ds
theorem Dv.mono {W : Wd} {K : PySem.W.Frag} {H H' : Hp} {o : Option V} (x : Wx W H H') : ∀ {s : Sl}, Dv W K H o s → Dv W K H' o s
  | .dat _, ⟨v, e, h⟩ => ⟨v, e, h.mono x⟩
  | .raw _, h => h
  | .any, h => h
  | .ml _ _ _, ⟨e, h⟩ => ⟨e, DnAll.mono x h⟩
def Sd (W : Wd) (K : PySem.W.Frag) (H : Hp) : L2.St → List Sl → Prop
  | [], [] => True
  | o :: σ, s :: env => Dv W K H o s ∧ Sd W K H σ env
  | [], _ :: _ => False
  | _ :: _, [] => False
section
variable {W : Wd} {K : PySem.W.Frag} {H H' : Hp}
theorem Sd.mono (x : Wx W H H') : ∀ {σ : L2.St} {env : List Sl}, Sd W K H σ env → Sd W K H' σ env
  | [], [], h => h
  | _ :: _, _ :: _, ⟨a, t⟩ => ⟨a.mono x, Sd.mono x t⟩
  | [], _ :: _, h => h.elim
  | _ :: _, [], h => h.elim
theorem Sd.get : ∀ {σ : L2.St} {env : List Sl} {i : Nat} {s : Sl}, Sd W K H σ env → env[i]? = some s → ∃ o, σ[i]? = some o ∧ Dv W K H o s
  | _ :: _, _ :: _, 0, _, ⟨a, _⟩, e => by
    cases e
    exact ⟨_, rfl, a⟩
  | _ :: _, _ :: _, i + 1, _, ⟨_, t⟩, e => Sd.get (i := i) t e
  | [], _ :: _, _, _, h, _ => h.elim
  | _ :: _, [], _, _, h, _ => h.elim
theorem Sd.set {v : V} {s : Sl} (hv : Dv W K H (some v) s) : ∀ {σ : L2.St} {env : List Sl} (i : Nat), Sd W K H σ env → Sd W K H (σ.set i (some v)) (env.set i s)
  | [], [], _, h => h
  | _ :: _, _ :: _, 0, ⟨_, t⟩ => ⟨hv, t⟩
  | _ :: _, _ :: _, i + 1, ⟨a, t⟩ => ⟨a, Sd.set hv i t⟩
  | [], _ :: _, _, h => h.elim
  | _ :: _, [], _, h => h.elim
theorem Sd.wipe1 : ∀ {σ : L2.St} {env : List Sl} (i : Nat), Sd W K H σ env → Sd W K H (σ.set i none) (env.set i .any)
  | [], [], _, h => h
  | _ :: _, _ :: _, 0, ⟨_, t⟩ => ⟨trivial, t⟩
  | _ :: _, _ :: _, i + 1, ⟨a, t⟩ => ⟨a, Sd.wipe1 i t⟩
  | [], _ :: _, _, h => h.elim
  | _ :: _, [], _, h => h.elim
def wipeE (env : List Sl) : List Nat → List Sl
  | [] => env
  | v :: vs => (wipeE env vs).set v .any
theorem Sd.wipe {σ : L2.St} {env : List Sl} (h : Sd W K H σ env) : ∀ vs : List Nat, Sd W K H (L2.wipe σ vs) (wipeE env vs)
  | [] => h
  | v :: vs => (Sd.wipe h vs).wipe1 v
theorem Sd.nones : ∀ n : Nat, Sd W K H (List.replicate n none) (List.replicate n .any)
  | 0 => trivial
  | n + 1 => ⟨trivial, Sd.nones n⟩
end

/-! ## families of contexts, and the weakest readings -/
/-- what a scope says of a name, as a Bool -/
def visB (sc : Scope) (x : Str) : Bool := sc.names.lookup x == some .local || sc.names.lookup x == some .cell || sc.names.lookup x == some .free
def locB (sc : Scope) (x : Str) : Bool := sc.names.lookup x == some .local || sc.names.lookup x == some .cell
def lclB (sc : Scope) (x : Str) : Bool := sc.names.lookup x == some .local
def glB (sc : Scope) (x : Str) : Bool := sc.names.lookup x == some .globalImplicit
theorem vis_of {sc sc' : Scope} {x : Str} (e : sc' = sc) (h : visB sc x = true) : Vis sc' x := by
  subst e
  unfold visB at h
  rw [Bool.or_eq_true, Bool.or_eq_true, beq_iff_eq, beq_iff_eq, beq_iff_eq] at h
  rcases h with (h | h) | h
  · exact Or.inl h
  · exact Or.inr (Or.inl h)
  · exact Or.inr (Or.inr h)
theorem loc_of {sc sc' : Scope} {x : Str} (e : sc' = sc) (h : locB sc x = true) : Loc sc' x := by
  subst e
  unfold locB at h
  rwa [Bool.or_eq_true, beq_iff_eq, beq_iff_eq] at h
theorem lcl_of {sc sc' : Scope} {x : Str} (e : sc' = sc) (h : lclB sc x = true) : sc'.names.lookup x = some .local := by
  subst e
  exact beq_iff_eq.mp h
theorem gl_of {X : Cx} {sc : Scope} {x : Str} (e : X.env.scope = sc) (h : glB sc x = true) : Gl X x := by
  subst e
  exact beq_iff_eq.mp h
structure Fam {ι : Type} (P : Program) (w : World) (K : PySem.W.Frag) (mg : Str → Option Value) (base : Heap) (N : List Str) (k : Nat) (sc : Scope) (F : ι → Cx) : Prop where
  es : ∀ i, (F i).env.scope = sc
  kd : sc.kind = .function
  pr : ∀ i, (F i).prog = P
  wo : ∀ i, (F i).w = w
  kk : ∀ i, (F i).K = K
  mg : ∀ i, (F i).mg = mg
  ba : ∀ i, (F i).base = base
  nn : ∀ i, (F i).N = N
  nd : N.Nodup
  ca : ∀ i, (F i).calm = true
  gu : ∀ i, (F i).A.guards = some []
  ro : ∀ i, Room k (F i).A
section
variable {ι : Type} (F : ι → Cx)
def WE (e : Expr) : TE := fun σ H Q => ∃ te, (∀ i, PE (F i) e te) ∧ te σ H Q
def WT (e : Expr) : TT := fun σ H Q => ∃ te, (∀ i, PT (F i) e te) ∧ te σ H Q
def WW (e : Expr) : TT := fun σ H Q => ∃ te, (∀ i, PW (F i) e te) ∧ te σ H Q
def WA (es : List Expr) : TA := fun σ H Q => ∃ te, (∀ i, PA (F i) es te) ∧ te σ H Q
def WS (ss : List Stmt) : TS := fun D σ H => ∃ t, (∀ i, PSs (F i) ss t) ∧ t D σ H
def WG (tg : Expr) : TG := fun v σ H Q => ∃ g, (∀ i, PG (F i) tg g) ∧ g v σ H Q
def WGs (ts : List Expr) : TGs := fun vs σ H Q => ∃ g, (∀ i, PGs (F i) ts g) ∧ g vs σ H Q
def WI (tg it : Expr) : TI := fun σ H R => ∃ wi, (∀ i, PI (F i) tg it wi) ∧ wi σ H R
variable {F}
theorem we_pe {e : Expr} (i : ι) : PE (F i) e (WE F e) := ⟨fun pins s σ H Q I h => by
  obtain ⟨t, ht, q⟩ := h
  exact (ht i).run pins s σ H Q I q⟩
theorem wt_pt {e : Expr} (i : ι) : PT (F i) e (WT F e) := ⟨fun pins s σ H Q I h => by
  obtain ⟨t, ht, q⟩ := h
  exact (ht i).run pins s σ H Q I q⟩
theorem ww_pw {e : Expr} (i : ι) : PW (F i) e (WW F e) := ⟨fun wh pins s σ H Q I h => by
  obtain ⟨t, ht, q⟩ := h
  exact (ht i).run wh pins s σ H Q I q⟩
theorem wa_pa {es : List Expr} (i : ι) : PA (F i) es (WA F es) := ⟨fun pos pins s σ H Q I h => by
  obtain ⟨t, ht, q⟩ := h
  exact (ht i).run pos pins s σ H Q I q⟩
theorem ws_ps {ss : List Stmt} (i : ι) : PSs (F i) ss (WS F ss) := ⟨fun pins s σ H D I h => by
  obtain ⟨t, ht, q⟩ := h
  exact (ht i).run pins s σ H D I q⟩
theorem wg_pg {tg : Expr} (i : ι) : PG (F i) tg (WG F tg) := ⟨fun pins s σ H v u Q I r h => by
  obtain ⟨t, ht, q⟩ := h
  exact (ht i).run pins s σ H v u Q I r q⟩
theorem wgs_pgs {ts : List Expr} (i : ι) : PGs (F i) ts (WGs F ts) := ⟨fun pins s σ H vs us Q I r h => by
  obtain ⟨t, ht, q⟩ := h
  exact (ht i).run pins s σ H vs us Q I r q⟩
theorem wi_pi {tg it : Expr} (i : ι) : PI (F i) tg it (WI F tg it) := ⟨fun pins s σ H R I h => by
  obtain ⟨t, ht, q⟩ := h
  exact (ht i).run pins s σ H R I q⟩
end

/-! ## judgements -/
section
variable {ι : Type} (F : ι → Cx) (W : Wd) (K : PySem.W.Frag)
/-- e, where the slots stand for env, gives a thing that R holds of -/
def Ev (e : Expr) (env : List Sl) (R : Sl → Prop) : Prop :=
  ∀ (σ : L2.St) (H : Hp), W.I H → Sd W K H σ env → ∀ Q : VK, (∀ v H' r, Wx W H H' → W.I H' → Dv W K H' (some v) r → R r → Q v H') → WE F e σ H Q
def EvA (es : List Expr) (env : List Sl) (R : List Sl → Prop) : Prop :=
  ∀ (σ : L2.St) (H : Hp), W.I H → Sd W K H σ env → ∀ Q : List V → Hp → Prop, (∀ vs H' rs, Wx W H H' → W.I H' → Sd W K H' (vs.map some) rs → R rs → Q vs H') → WA F es σ H Q
def EvT (e : Expr) (env : List Sl) (R : Bool → Prop) : Prop :=
  ∀ (σ : L2.St) (H : Hp), W.I H → Sd W K H σ env → ∀ Q : Bool → Hp → Prop, (∀ b H', Wx W H H' → W.I H' → R b → Q b H') → WT F e σ H Q
def EvW (e : Expr) (env : List Sl) (R : Bool → Prop) : Prop :=
  ∀ (σ : L2.St) (H : Hp), W.I H → Sd W K H σ env → ∀ Q : Bool → Hp → Prop, (∀ b H', Wx W H H' → W.I H' → R b → Q b H') → WW F e σ H Q
/-- a target takes what r tells, the slots then stand for env' -/
def Tg (tg : Expr) (r : Sl) (env env' : List Sl) : Prop :=
  ∀ (v : V) (σ : L2.St) (H : Hp), W.I H → Sd W K H σ env → Dv W K H (some v) r → ∀ Q : L2.St → Hp → Prop, (∀ σ' H', Wx W H H' → W.I H' → Sd W K H' σ' env' → Q σ' H') → WG F tg v σ H Q
def Tgs (ts : List Expr) (rs : List Sl) (env env' : List Sl) : Prop :=
  ∀ (vs : List V) (σ : L2.St) (H : Hp), W.I H → Sd W K H σ env → Sd W K H (vs.map some) rs → ∀ Q : L2.St → Hp → Prop, (∀ σ' H', Wx W H H' → W.I H' → Sd W K H' σ' env' → Q σ' H') → WGs F ts vs σ H Q
structure Post where
  nx : List Sl → Prop
  rt : Sl → Prop
  bk : List Sl → Prop := fun _ => False
  ct : List Sl → Prop := fun _ => False
structure Good (P : Post) (D : Ends) (H : Hp) : Prop where
  nx : ∀ σ' H' env', Wx W H H' → W.I H' → Sd W K H' σ' env' → P.nx env' → D.nx σ' H'
  rt : ∀ v H' r, Wx W H H' → W.I H' → Dv W K H' (some v) r → P.rt r → D.rt v H'
  bk : ∀ σ' H' env', Wx W H H' → W.I H' → Sd W K H' σ' env' → P.bk env' → D.bk σ' H'
  ct : ∀ σ' H' env', Wx W H H' → W.I H' → Sd W K H' σ' env' → P.ct env' → D.ct σ' H'
def Bd (ss : List Stmt) (env : List Sl) (P : Post) : Prop :=
  ∀ (σ : L2.St) (H : Hp) (D : Ends), W.I H → Sd W K H σ env → Good W K P D H → WS F ss D σ H
end
theorem Good.mono {W : Wd} {K : PySem.W.Frag} {P : Post} {D : Ends} {H H' : Hp} (g : Good W K P D H) (x : Wx W H H') : Good W K P D H' :=
  ⟨fun σ1 H1 e y => g.nx σ1 H1 e (x.trans y), fun v H1 r y => g.rt v H1 r (x.trans y), fun σ1 H1 e y => g.bk σ1 H1 e (x.trans y), fun σ1 H1 e y => g.ct σ1 H1 e (x.trans y)⟩
end Cr

set_option Elab.async false
set_option linter.all false
set_option maxRecDepth 100000
set_option maxHeartbeats 4000000
namespace Cr
open PySem PySem.Spec PyProof.Rows L2

section
variable {ι : Type} {F : ι → Cx} {P : Program} {w : World} {K : PySem.W.Frag} {mg : Str → Option Value} {base : Heap} {N : List Str} {k : Nat} {sc : Scope} {W : Wd} {env : List Sl}
abbrev E1 (F : ι → Cx) (W : Wd) (K : PySem.W.Frag) (e : Expr) (env : List Sl) (r : Sl) : Prop := Ev F W K e env fun s => s = r
abbrev T1 (F : ι → Cx) (W : Wd) (K : PySem.W.Frag) (e : Expr) (env : List Sl) (b : Bool) : Prop := EvT F W K e env fun c => c = b
abbrev A1 (F : ι → Cx) (W : Wd) (K : PySem.W.Frag) (es : List Expr) (env : List Sl) (ds : List PyData) : Prop := EvA F W K es env fun rs => rs = ds.map .dat

theorem Dn.dv {H : Hp} {v : V} {d : PyData} (h : Dn W K H v d) : Dv W K H (some v) (.dat d) := ⟨v, rfl, h⟩
theorem raw_dv {H : Hp} {v : V} : Dv W K H (some v) (.raw v) := rfl
/-! ### weakening -/
theorem Ev.imp {e : Expr} {R R' : Sl → Prop} (h : Ev F W K e env R) (m : ∀ r, R r → R' r) : Ev F W K e env R' := fun σ H i sd Q q => h σ H i sd Q fun v H' r x i' d hr => q v H' r x i' d (m r hr)
theorem EvT.imp {e : Expr} {R R' : Bool → Prop} (h : EvT F W K e env R) (m : ∀ r, R r → R' r) : EvT F W K e env R' := fun σ H i sd Q q => h σ H i sd Q fun b H' x i' hr => q b H' x i' (m b hr)
theorem EvA.imp {es : List Expr} {R R' : List Sl → Prop} (h : EvA F W K es env R) (m : ∀ r, R r → R' r) : EvA F W K es env R' := fun σ H i sd Q q => h σ H i sd Q fun v H' r x i' d hr => q v H' r x i' d (m r hr)
theorem E1.is {e : Expr} {r r' : Sl} (h : E1 F W K e env r) (z : r = r') : E1 F W K e env r' := z ▸ h
theorem T1.is {e : Expr} {b b' : Bool} (h : T1 F W K e env b) (z : b = b') : T1 F W K e env b' := z ▸ h

/-! ### names and constants -/
theorem ev_var (fm : Fam P w K mg base N k sc F) {x : Str} {pos : Pos} {d : PyData} (j : Nat) (hN : N[j]? = some x) (he : env[j]? = some (.dat d)) (hv : visB sc x = true := by decide +kernel)
    (hd : (x == ("__debug__" : Str)) = false := by decide) (hc : (x == ("__classdict__" : Str)) = false := by decide) : E1 F W K (.Name x pos) env (.dat d) := by
  intro σ H i sd Q q
  obtain ⟨o, ho, v, rfl, dn⟩ := sd.get he
  exact ⟨tVar j, fun z => pe_var (by rw [fm.nn z]; exact hN) (vis_of (fm.es z) hv) hd hc, v, ho, q v H _ (Wx.refl W H) i dn.dv rfl⟩
theorem ev_raw (fm : Fam P w K mg base N k sc F) {x : Str} {pos : Pos} {v : V} (j : Nat) (hN : N[j]? = some x) (he : env[j]? = some (.raw v)) (hv : visB sc x = true := by decide +kernel)
    (hd : (x == ("__debug__" : Str)) = false := by decide) (hc : (x == ("__classdict__" : Str)) = false := by decide) : E1 F W K (.Name x pos) env (.raw v) := by
  intro σ H i sd Q q
  obtain ⟨o, ho, hr⟩ := sd.get he
  have hr2 : o = some v := hr
  subst hr2
  exact ⟨tVar j, fun z => pe_var (by rw [fm.nn z]; exact hN) (vis_of (fm.es z) hv) hd hc, v, ho, q v H _ (Wx.refl W H) i raw_dv rfl⟩
theorem ev_c {e : Expr} {v : V} {d : PyData} (h : ∀ i, PE (F i) e (tC v)) (dn : ∀ H, Dn W K H v d) : E1 F W K e env (.dat d) := by
  intro σ H i sd Q q
  exact ⟨tC v, h, q v H _ (Wx.refl W H) i (dn H).dv rfl⟩
theorem ev_int {n : Int} {j pos} : E1 F W K (.Constant (.int n) j pos) env (.dat (.int n)) := ev_c (fun _ => pe_int) fun _ => .int n
theorem ev_bl {b : Bool} {j pos} : E1 F W K (.Constant (.bool b) j pos) env (.dat (.bool b)) := ev_c (fun _ => pe_bl) fun _ => .bl b
theorem ev_non {j pos} : E1 F W K (.Constant .none j pos) env (.dat .none) := ev_c (fun _ => pe_non) fun _ => .non
theorem ev_str {x j pos} : E1 F W K (.Constant (.str x) j pos) env (.dat (.str x)) := ev_c (fun _ => pe_str) fun _ => .str _
/-- a constant of the module: DC v d tells what it is in any heap -/
def DC (K : PySem.W.Frag) (v : V) (d : PyData) : Prop := ∀ W H, Dn W K H v d
theorem ev_glob (fm : Fam P w K mg base N k sc F) {x : Str} {pos : Pos} {v : V} {u : Value} {d : PyData} (hm : mg x = some u) (r : RelV v u) (dn : DC K v d) (hg : glB sc x = true := by decide +kernel) (hd : (x == ("__debug__" : Str)) = false := by decide) : E1 F W K (.Name x pos) env (.dat d) :=
  ev_c (fun i => pe_glob (gl_of (fm.es i) hg) (by rw [fm.mg i]; exact hm) r hd) fun H => dn W H

/-! ### argument lists and displays -/
theorem ea_nil : EvA F W K [] env fun rs => rs = [] := by
  intro σ H i sd Q q
  exact ⟨tNil, fun _ => pa_nil, q [] H [] (Wx.refl W H) i trivial rfl⟩
theorem ea_cons {e : Expr} {es : List Expr} {R : Sl → Prop} {Rs : List Sl → Prop} (h : Ev F W K e env R) (hs : EvA F W K es env Rs) (st : ∀ i, starEach (e :: es) (F i).env = (false, eval e (F i).env) :: starEach es (F i).env := by intro _; rfl) :
    EvA F W K (e :: es) env fun rs => ∃ r t, rs = r :: t ∧ R r ∧ Rs t := by
  intro σ H i sd Q q
  refine ⟨tCons (WE F e) (WA F es), fun z => pa_cons (we_pe z) (wa_pa z) (st z), ?_⟩
  refine h σ H i sd _ fun v H1 r x1 i1 d1 h1 => ?_
  refine hs σ H1 i1 (sd.mono x1) _ fun vs H2 rs x2 i2 d2 h2 => ?_
  exact q (v :: vs) H2 (r :: rs) (x1.trans x2) i2 ⟨d1.mono x2, d2⟩ ⟨r, rs, rfl, h1, h2⟩
theorem a_nil : A1 F W K [] env [] := ea_nil
theorem a_cons {e : Expr} {es : List Expr} {d : PyData} {ds : List PyData} (h : E1 F W K e env (.dat d)) (hs : A1 F W K es env ds) (st : ∀ i, starEach (e :: es) (F i).env = (false, eval e (F i).env) :: starEach es (F i).env := by intro _; rfl) : A1 F W K (e :: es) env (d :: ds) :=
  (ea_cons h hs st).imp fun rs ⟨r, t, e1, e2, e3⟩ => by rw [e1, e2, e3]; rfl
theorem r_cons {e : Expr} {es : List Expr} {v : V} {ds : List PyData} (h : E1 F W K e env (.raw v)) (hs : A1 F W K es env ds) (st : ∀ i, starEach (e :: es) (F i).env = (false, eval e (F i).env) :: starEach es (F i).env := by intro _; rfl) :
    EvA F W K (e :: es) env fun rs => rs = .raw v :: ds.map .dat :=
  (ea_cons h hs st).imp fun rs ⟨r, t, e1, e2, e3⟩ => by rw [e1, e2, e3]
theorem dn_of_sd {H : Hp} : ∀ {vs : List V} {ds : List PyData}, Sd W K H (vs.map some) (ds.map .dat) → DnAll W K H vs ds
  | [], [], _ => .nil
  | v :: vs, d :: ds, ⟨⟨u, e, a⟩, t⟩ => by
    cases e
    exact .cons a (dn_of_sd t)
  | [], _ :: _, h => h.elim
  | _ :: _, [], h => h.elim
theorem sd_of_dn {H : Hp} : ∀ {vs : List V} {ds : List PyData}, DnAll W K H vs ds → Sd W K H (vs.map some) (ds.map .dat)
  | [], [], _ => trivial
  | v :: vs, d :: ds, .cons a t => ⟨⟨v, rfl, a⟩, sd_of_dn t⟩
theorem new_tup {H : Hp} {p : Addr} {vs : List V} {ds : List PyData} (i : W.I H) (hp : H p = none) (h : DnAll W K H vs ds) : Wx W H (upd H p (.tup vs)) ∧ W.I (upd H p (.tup vs)) ∧ Dn W K (upd H p (.tup vs)) (.ref p) (.tuple ds) := by
  obtain ⟨n, x, i'⟩ := W.new (o := .tup vs) i hp
  exact ⟨x, i', .tup (Or.inl ⟨n, upd_same⟩) (h.mono x)⟩
theorem new_lst {H : Hp} {p : Addr} {vs : List V} {ds : List PyData} (i : W.I H) (hp : H p = none) (h : DnAll W K H vs ds) : Wx W H (upd H p (.lst vs)) ∧ W.I (upd H p (.lst vs)) ∧ Dn W K (upd H p (.lst vs)) (.ref p) (.list ds) := by
  obtain ⟨n, x, i'⟩ := W.new (o := .lst vs) i hp
  exact ⟨x, i', .lst ⟨n, upd_same⟩ (h.mono x)⟩
theorem sz_small {n : Nat} (h : n ≤ 16777216) : n ≤ sizeLine := by rw [sizeLine_eq]; omega
theorem ev_tup {es : List Expr} {k1 pos} {ds : List PyData} (h : A1 F W K es env ds) (hz : ds.length ≤ sizeLine := by first | (exact sz_small (by decide)) | (exact sz_small (by simp only [List.length_cons, List.length_nil]; omega))) : E1 F W K (.Tuple es k1 pos) env (.dat (.tuple ds)) := by
  intro σ H i sd Q q
  refine ⟨tTup (WA F es), fun z => pe_tup (wa_pa z), ?_⟩
  refine h σ H i sd _ fun vs H1 rs x1 i1 d1 h1 => ?_
  subst h1
  have dn := dn_of_sd d1
  refine ⟨by rw [dn.length]; exact hz, fun p hp => ?_⟩
  obtain ⟨x2, i2, d2⟩ := new_tup i1 hp dn
  exact q _ _ _ (x1.trans x2) i2 d2.dv rfl
theorem ev_lst {es : List Expr} {pos} {ds : List PyData} (h : A1 F W K es env ds) (hz : ds.length ≤ sizeLine := by first | (exact sz_small (by decide)) | (exact sz_small (by simp only [List.length_cons, List.length_nil]; omega))) : E1 F W K (.List es pos) env (.dat (.list ds)) := by
  intro σ H i sd Q q
  refine ⟨tLst (WA F es), fun z => pe_lst (wa_pa z), ?_⟩
  refine h σ H i sd _ fun vs H1 rs x1 i1 d1 h1 => ?_
  subst h1
  have dn := dn_of_sd d1
  refine ⟨by rw [dn.length]; exact hz, fun p hp => ?_⟩
  obtain ⟨x2, i2, d2⟩ := new_lst i1 hp dn
  exact q _ _ _ (x1.trans x2) i2 d2.dv rfl

/-! ### two-place operations, by data -/
def WO (F : ι → Cx) (f : Value → Value → Sem Value) : R2 := fun x y H Q => ∃ r, (∀ i, OpR (F i) f r) ∧ r x y H Q
theorem wo_op {f : Value → Value → Sem Value} (i : ι) : OpR (F i) f (WO F f) := by
  intro pins s σ H x y v u Q I rx ry ⟨r, hr, q⟩
  exact hr i pins s σ H x y v u Q I rx ry q
/-- f on data x, y gives data that R holds of -/
def Bin (F : ι → Cx) (W : Wd) (K : PySem.W.Frag) (f : Value → Value → Sem Value) (x y : PyData) (R : Sl → Prop) : Prop :=
  ∀ (H : Hp) (vx vy : V), W.I H → Dn W K H vx x → Dn W K H vy y → ∀ Q : VK, (∀ v H' r, Wx W H H' → W.I H' → Dv W K H' (some v) r → R r → Q v H') → WO F f vx vy H Q
abbrev B1 (F : ι → Cx) (W : Wd) (K : PySem.W.Frag) (f : Value → Value → Sem Value) (x y z : PyData) : Prop := Bin F W K f x y fun s => s = .dat z
theorem op_all {e1 e2 : Expr} {f : Value → Value → Sem Value} {Ra Rb R : Sl → Prop} (ha : Ev F W K e1 env Ra) (hb : Ev F W K e2 env Rb)
    (ho : ∀ x y, Ra x → Rb y → ∃ dx dy, x = .dat dx ∧ y = .dat dy ∧ Bin F W K f dx dy R) (σ : L2.St) (H : Hp) (i : W.I H) (sd : Sd W K H σ env) (Q : VK)
    (q : ∀ v H' r, Wx W H H' → W.I H' → Dv W K H' (some v) r → R r → Q v H') : tOp (WO F f) (WE F e1) (WE F e2) σ H Q := by
  refine ha σ H i sd _ fun v1 H1 r1 x1 i1 d1 h1 => ?_
  refine hb σ H1 i1 (sd.mono x1) _ fun v2 H2 r2 x2 i2 d2 h2 => ?_
  obtain ⟨dx, dy, rfl, rfl, hB⟩ := ho r1 r2 h1 h2
  obtain ⟨u1, z1, n1⟩ := d1
  obtain ⟨u2, z2, n2⟩ := d2
  cases z1
  cases z2
  exact hB H2 v1 v2 i2 (n1.mono x2) n2 Q fun v H3 r x3 i3 d3 h3 => q v H3 r ((x1.trans x2).trans x3) i3 d3 h3
theorem ev_opN {a b : Expr} {op : Operator} {pos : Pos} {Ra Rb R : Sl → Prop} (ha : Ev F W K a env Ra) (hb : Ev F W K b env Rb) (ho : ∀ x y, Ra x → Rb y → ∃ dx dy, x = .dat dx ∧ y = .dat dy ∧ Bin F W K (binaryOp op) dx dy R) :
    Ev F W K (.BinOp a op b pos) env R := fun σ H i sd Q q => ⟨_, fun z => pe_op (wo_op z) (we_pe z) (we_pe z), op_all ha hb ho σ H i sd Q q⟩
theorem ev_op {a b : Expr} {op : Operator} {pos : Pos} {x y z : PyData} (ha : E1 F W K a env (.dat x)) (hb : E1 F W K b env (.dat y)) (ho : B1 F W K (binaryOp op) x y z) : E1 F W K (.BinOp a op b pos) env (.dat z) :=
  ev_opN ha hb fun _ _ e1 e2 => ⟨x, y, e1, e2, ho⟩
theorem ev_cmpN {a b : Expr} {op : CmpOp} {pos : Pos} {Ra Rb R : Sl → Prop} (ha : Ev F W K a env Ra) (hb : Ev F W K b env Rb) (ho : ∀ x y, Ra x → Rb y → ∃ dx dy, x = .dat dx ∧ y = .dat dy ∧ Bin F W K (compareOp op) dx dy R)
    (hm : behindInMarks op b = false := by first | exact nomark _ | rfl) : Ev F W K (.Compare a [op] [b] pos) env R := fun σ H i sd Q q => ⟨_, fun z => pe_cmpR (wo_op z) (we_pe z) (we_pe z) hm, op_all ha hb ho σ H i sd Q q⟩
theorem ev_cmp {a b : Expr} {op : CmpOp} {pos : Pos} {x y z : PyData} (ha : E1 F W K a env (.dat x)) (hb : E1 F W K b env (.dat y)) (ho : B1 F W K (compareOp op) x y z)
    (hm : behindInMarks op b = false := by first | exact nomark _ | rfl) : E1 F W K (.Compare a [op] [b] pos) env (.dat z) := ev_cmpN ha hb (fun _ _ e1 e2 => ⟨x, y, e1, e2, ho⟩) hm
theorem et_cmpN {a b : Expr} {op : CmpOp} {pos : Pos} {Ra Rb : Sl → Prop} {R : Bool → Prop} (ha : Ev F W K a env Ra) (hb : Ev F W K b env Rb) (ho : ∀ x y, Ra x → Rb y → ∃ dx dy, x = .dat dx ∧ y = .dat dy ∧ Bin F W K (compareOp op) dx dy fun s => ∃ c, s = .dat (.bool c) ∧ R c)
    (hm : behindInMarks op b = false := by first | exact nomark _ | rfl) : EvT F W K (.Compare a [op] [b] pos) env R := by
  intro σ H i sd Q q
  refine ⟨_, fun z => pt_cmpR (wo_op z) (we_pe z) (we_pe z) hm, op_all ha hb ho σ H i sd _ fun v H' r x i' d h => ?_⟩
  obtain ⟨c, rfl, hc⟩ := h
  obtain ⟨u, z1, n1⟩ := d
  cases z1
  cases n1
  exact ⟨c, rfl, q c H' x i' hc⟩
theorem et_cmp {a b : Expr} {op : CmpOp} {pos : Pos} {x y : PyData} {c : Bool} (ha : E1 F W K a env (.dat x)) (hb : E1 F W K b env (.dat y)) (ho : B1 F W K (compareOp op) x y (.bool c))
    (hm : behindInMarks op b = false := by first | exact nomark _ | rfl) : T1 F W K (.Compare a [op] [b] pos) env c :=
  et_cmpN ha hb (fun _ _ e1 e2 => ⟨x, y, e1, e2, fun H vx vy i nx ny Q q => ho H vx vy i nx ny Q fun v H' r xx ii d h => q v H' r xx ii d ⟨c, h, rfl⟩⟩) hm
/-- a value that is a bool, as a test -/
theorem et_val {e : Expr} {c : Bool} (h : E1 F W K e env (.dat (.bool c))) (ht : ∀ i, ∀ whole, isTrue e (F i).env whole = (do let v ← whole; standAt e.pos; holding [v] (truthy v)) := by intro _ _; rfl) : T1 F W K e env c := by
  intro σ H i sd Q q
  refine ⟨_, fun z => pt_val (we_pe z) (ht z), h σ H i sd _ fun v H' r x i' d hr => ?_⟩
  subst hr
  obtain ⟨u, z1, n1⟩ := d
  cases z1
  cases n1
  exact ⟨c, rfl, q c H' x i' rfl⟩

/-! ### the operations -/
theorem bin_int {f : Value → Value → Sem Value} {g : Int → Int → Int} {C : Int → Int → Prop} {i j : Int} (h : ∀ z, OpR (F z) f (rI C fun i j => .int (g i j))) (hc : C i j) : B1 F W K f (.int i) (.int j) (.int (g i j)) := by
  intro H vx vy ii nx ny Q q
  cases nx
  cases ny
  exact ⟨_, h, i, j, rfl, rfl, hc, q _ H _ (Wx.refl W H) ii (Dn.dv (.int _)) rfl⟩
theorem bin_int0 {f : Value → Value → Sem Value} {g : Int → Int → Int} {i j : Int} (h : ∀ z, OpR (F z) f (rI0 fun i j => .int (g i j))) : B1 F W K f (.int i) (.int j) (.int (g i j)) := by
  intro H vx vy ii nx ny Q q
  cases nx
  cases ny
  exact ⟨_, h, i, j, rfl, rfl, q _ H _ (Wx.refl W H) ii (Dn.dv (.int _)) rfl⟩
theorem cmp_int {f : Value → Value → Sem Value} {g : Int → Int → Bool} {i j : Int} (h : ∀ z, OpR (F z) f (rI0 fun i j => .bl (g i j))) : B1 F W K f (.int i) (.int j) (.bool (g i j)) := by
  intro H vx vy ii nx ny Q q
  cases nx
  cases ny
  exact ⟨_, h, i, j, rfl, rfl, q _ H _ (Wx.refl W H) ii (Dn.dv (.bl _)) rfl⟩
theorem b_add {i j : Int} : B1 F W K (binaryOp .Add) (.int i) (.int j) (.int (i + j)) := bin_int0 (g := fun i j => i + j) fun _ => op_add
theorem b_sub {i j : Int} : B1 F W K (binaryOp .Sub) (.int i) (.int j) (.int (i - j)) := bin_int0 (g := fun i j => i - j) fun _ => op_sub
theorem b_mul {i j : Int} (h : CMul i j) : B1 F W K (binaryOp .Mult) (.int i) (.int j) (.int (i * j)) := bin_int (g := fun i j => i * j) (fun _ => op_mul) h
theorem b_mod {i j : Int} (h : 0 < j) : B1 F W K (binaryOp .Mod) (.int i) (.int j) (.int (i % j)) := bin_int (g := fun i j => i % j) (fun _ => op_mod) h
theorem b_div {i j : Int} (h : CDivW i j) : B1 F W K (binaryOp .FloorDiv) (.int i) (.int j) (.int (i / j)) := bin_int (g := fun i j => i / j) (fun _ => op_fdivW) h
theorem b_pow {i j : Int} (h : CPow i j) : B1 F W K (binaryOp .Pow) (.int i) (.int j) (.int (i ^ j.toNat)) := bin_int (g := fun i j => i ^ j.toNat) (fun _ => op_pow) h
theorem b_lt {i j : Int} : B1 F W K (compareOp .Lt) (.int i) (.int j) (.bool (decide (i < j))) := cmp_int (g := fun i j => decide (i < j)) fun _ => op_lt
theorem b_le {i j : Int} : B1 F W K (compareOp .LtE) (.int i) (.int j) (.bool (decide (i ≤ j))) := cmp_int (g := fun i j => decide (i ≤ j)) fun _ => op_le
theorem b_gt {i j : Int} : B1 F W K (compareOp .Gt) (.int i) (.int j) (.bool (decide (j < i))) := cmp_int (g := fun i j => decide (j < i)) fun _ => op_gt
theorem b_ge {i j : Int} : B1 F W K (compareOp .GtE) (.int i) (.int j) (.bool (decide (j ≤ i))) := cmp_int (g := fun i j => decide (j ≤ i)) fun _ => op_ge
theorem b_eq (fm : Fam P w K mg base N k sc F) {x y : PyData} (hx : SeqAt.shaped x = true := by rfl) (hy : SeqAt.shaped y = true := by rfl) (nx : noDict x = true := by rfl) (ny : noDict y = true := by rfl) : B1 F W K (compareOp .Eq) x y (.bool (PyData.eqv x y)) := by
  intro H vx vy ii dx dy Q q
  refine ⟨rEqD K, fun z => by have := op_eqD (fm.ro z).units; rwa [fm.kk z] at this, x, y, dx.dp nx, dy.dp ny, hx, hy, q _ H _ (Wx.refl W H) ii (Dn.dv (.bl _)) rfl⟩
theorem b_ne (fm : Fam P w K mg base N k sc F) {x y : PyData} (hx : SeqAt.shaped x = true := by rfl) (hy : SeqAt.shaped y = true := by rfl) (nx : noDict x = true := by rfl) (ny : noDict y = true := by rfl) : B1 F W K (compareOp .NotEq) x y (.bool (!PyData.eqv x y)) := by
  intro H vx vy ii dx dy Q q
  refine ⟨rNeD K, fun z => by have := op_neD (fm.ro z).units; rwa [fm.kk z] at this, x, y, dx.dp nx, dy.dp ny, hx, hy, q _ H _ (Wx.refl W H) ii (Dn.dv (.bl _)) rfl⟩
def isNone : PyData → Bool
  | .none => true
  | _ => false
theorem b_isN {x : PyData} : B1 F W K (compareOp .Is) x .none (.bool (isNone x)) := by
  intro H vx vy ii dx dy Q q
  cases dy
  refine ⟨_, fun z => op_isN, rfl, ?_⟩
  have e : decide (vx = V.non) = isNone x := by cases dx <;> rfl
  rw [e]
  exact q _ H _ (Wx.refl W H) ii (Dn.dv (.bl _)) rfl
theorem b_notN {x : PyData} : B1 F W K (compareOp .IsNot) x .none (.bool (!isNone x)) := by
  intro H vx vy ii dx dy Q q
  cases dy
  refine ⟨_, fun z => op_notN, rfl, ?_⟩
  have e : decide (vx = V.non) = isNone x := by cases dx <;> rfl
  rw [e]
  exact q _ H _ (Wx.refl W H) ii (Dn.dv (.bl _)) rfl
theorem la_of {H : Hp} {a : Addr} {xs : List V} (n : ¬ W.M a) (h : H a = some (.lst xs)) : LA W K H a xs := ⟨n, h⟩
/-- flat data: what x in xs asks -/
def flatD : PyData → Bool
  | .none | .bool _ | .int _ | .str _ => true
  | _ => false
def inD (x : PyData) (xs : List PyData) : Bool := xs.any fun y => PyData.eqv y x
theorem flat_of {H : Hp} {v : V} {d : PyData} (h : Dn W K H v d) (f : flatD d = true) : flatV v = true := by
  cases h <;> first | rfl | (simp [flatD] at f)
theorem flats_of {H : Hp} : ∀ {ds : List PyData} {vs : List V}, DnAll W K H vs ds → ds.all flatD = true → vs.all flatV = true
  | [], _, h, _ => by cases h; rfl
  | d :: ds, _, h, f => by
    have f2 : flatD d = true ∧ ds.all flatD = true := by simpa using f
    cases h with
    | cons a t =>
      rw [List.all_cons, flat_of a f2.1, flats_of t f2.2] <;> rfl
theorem eqV_of {H : Hp} {v u : V} {d e : PyData} (h : Dn W K H v d) (h' : Dn W K H u e) (f : flatD d = true) (f' : flatD e = true) : eqV v u = PyData.eqv d e := by
  cases h <;> cases h' <;> first | rfl | (simp [eqV, PyData.eqv]; done) | (simp [flatD] at f; done) | (simp [flatD] at f'; done) | (unfold eqV PyData.eqv; rfl) | skip
end
end Cr

set_option Elab.async false
set_option linter.all false
set_option maxRecDepth 100000
set_option maxHeartbeats 4000000
namespace Cr
open PySem PySem.Spec PyProof.Rows L2
section
variable {ι : Type} {F : ι → Cx} {P : Program} {w : World} {K : PySem.W.Frag} {mg : Str → Option Value} {base : Heap} {N : List Str} {k : Nat} {sc : Scope} {W : Wd} {env : List Sl}

/-! ### in, lists, tuples, texts -/
theorem inV_of {H : Hp} {v : V} {d : PyData} (h : Dn W K H v d) (f : flatD d = true) : ∀ {ds : List PyData} {vs : List V}, DnAll W K H vs ds → ds.all flatD = true → inV v vs = inD d ds
  | [], _, a, _ => by cases a; rfl
  | e :: ds, _, a, f2 => by
    have f3 : flatD e = true ∧ ds.all flatD = true := by simpa using f2
    cases a with
    | cons b t =>
      have ih := inV_of h f t f3.2
      unfold inV inD at ih ⊢
      rw [List.any_cons, List.any_cons, eqV_of b h f3.1 f, ih]
theorem in_seq (fm : Fam P w K mg base N k sc F) {x s : PyData} {ds : List PyData} (hs : s = .list ds ∨ s = .tuple ds) (fx : flatD x = true) (fs : ds.all flatD = true) : B1 F W K (compareOp .In) x s (.bool (inD x ds)) := by
  intro H vx vy ii nx ny Q q
  refine ⟨rIn K false, fun z => by have := op_in_seq (X := F z); rwa [fm.kk z] at this, ?_⟩
  rcases hs with rfl | rfl
  · cases ny with
    | lst a r => exact ⟨_, _, rfl, Or.inl a.sq, flat_of nx fx, flats_of r fs, q _ H _ (Wx.refl W H) ii (Dn.dv (by show Dn W K H (.bl (inV vx _)) _; rw [inV_of nx fx r fs]; exact .bl _)) rfl⟩
  · cases ny with
    | tup a r => exact ⟨_, _, rfl, Or.inr a.sq, flat_of nx fx, flats_of r fs, q _ H _ (Wx.refl W H) ii (Dn.dv (by show Dn W K H (.bl (inV vx _)) _; rw [inV_of nx fx r fs]; exact .bl _)) rfl⟩
theorem nin_seq (fm : Fam P w K mg base N k sc F) {x s : PyData} {ds : List PyData} (hs : s = .list ds ∨ s = .tuple ds) (fx : flatD x = true) (fs : ds.all flatD = true) : B1 F W K (compareOp .NotIn) x s (.bool (!inD x ds)) := by
  intro H vx vy ii nx ny Q q
  refine ⟨rIn K true, fun z => by have := op_notIn_seq (X := F z); rwa [fm.kk z] at this, ?_⟩
  rcases hs with rfl | rfl
  · cases ny with
    | lst a r => exact ⟨_, _, rfl, Or.inl a.sq, flat_of nx fx, flats_of r fs, q _ H _ (Wx.refl W H) ii (Dn.dv (by show Dn W K H (.bl (!inV vx _)) _; rw [inV_of nx fx r fs]; exact .bl _)) rfl⟩
  · cases ny with
    | tup a r => exact ⟨_, _, rfl, Or.inr a.sq, flat_of nx fx, flats_of r fs, q _ H _ (Wx.refl W H) ii (Dn.dv (by show Dn W K H (.bl (!inV vx _)) _; rw [inV_of nx fx r fs]; exact .bl _)) rfl⟩
theorem b_inL (fm : Fam P w K mg base N k sc F) {x : PyData} {ds : List PyData} (fx : flatD x = true := by rfl) (fs : ds.all flatD = true := by rfl) : B1 F W K (compareOp .In) x (.list ds) (.bool (inD x ds)) := in_seq fm (Or.inl rfl) fx fs
theorem b_inT (fm : Fam P w K mg base N k sc F) {x : PyData} {ds : List PyData} (fx : flatD x = true := by rfl) (fs : ds.all flatD = true := by rfl) : B1 F W K (compareOp .In) x (.tuple ds) (.bool (inD x ds)) := in_seq fm (Or.inr rfl) fx fs
theorem b_ninL (fm : Fam P w K mg base N k sc F) {x : PyData} {ds : List PyData} (fx : flatD x = true := by rfl) (fs : ds.all flatD = true := by rfl) : B1 F W K (compareOp .NotIn) x (.list ds) (.bool (!inD x ds)) := nin_seq fm (Or.inl rfl) fx fs
theorem b_ninT (fm : Fam P w K mg base N k sc F) {x : PyData} {ds : List PyData} (fx : flatD x = true := by rfl) (fs : ds.all flatD = true := by rfl) : B1 F W K (compareOp .NotIn) x (.tuple ds) (.bool (!inD x ds)) := nin_seq fm (Or.inr rfl) fx fs
/-- x in l, whatever is in l -/
theorem b_inAny (fm : Fam P w K mg base N (k + 1) sc F) {x : PyData} {ds : List PyData} (hx : SeqAt.shaped x = true) (hy : SeqAt.shaped (.list ds) = true) (nx : noDict x = true) (ny : noDict (.list ds) = true) : B1 F W K (compareOp .In) x (.list ds) (.bool (inD x ds)) := by
  intro H vx vy ii dx dy Q q
  have hu : ∀ z, (F z).A.units + 65 < cLine := fun z => by have := (fm.ro z).un; omega
  refine ⟨rInD K, fun z => by have := op_inD (hu z); rwa [fm.kk z] at this, x, ds, dx.dp nx, dy.dp ny, hx, hy, q _ H _ (Wx.refl W H) ii (Dn.dv (.bl _)) rfl⟩
def signIn (c : Nat) (z : Str) : Bool := decide (c ∈ z.cps.toList)
theorem b_inSign {c : Nat} {z : Str} : B1 F W K (compareOp .In) (.str ⟨#[c]⟩) (.str z) (.bool (signIn c z)) := by
  intro H vx vy ii nx ny Q q
  cases nx
  cases ny
  exact ⟨_, fun z => op_in_sign, c, z, rfl, rfl, q _ H _ (Wx.refl W H) ii (Dn.dv (.bl _)) rfl⟩
theorem b_ninSign {c : Nat} {z : Str} : B1 F W K (compareOp .NotIn) (.str ⟨#[c]⟩) (.str z) (.bool (!signIn c z)) := by
  intro H vx vy ii nx ny Q q
  cases nx
  cases ny
  exact ⟨_, fun z => op_notIn_sign, c, z, rfl, rfl, q _ H _ (Wx.refl W H) ii (Dn.dv (.bl _)) rfl⟩
/-- a new list of two, also where one stands in the module -/
theorem b_cat {ds es : List PyData} (hz : ds.length + es.length ≤ sizeLine) : B1 F W K (binaryOp .Add) (.list ds) (.list es) (.list (ds ++ es)) := by
  intro H vx vy ii nx ny Q q
  cases nx with
  | lst a ra =>
    cases ny with
    | lst b rb =>
      refine ⟨_, fun z => op_cat, _, _, _, _, rfl, rfl, a.2, b.2, by rw [ra.length, rb.length]; exact hz, fun p hp => ?_⟩
      obtain ⟨x2, i2, d2⟩ := new_lst ii hp (ra.append rb)
      exact q _ _ _ x2 i2 d2.dv rfl
theorem b_rep {ds : List PyData} {n : Int} (h0 : -(2 ^ 63) ≤ n) (h1 : n < 2 ^ 63) (hz : ds.length * n.toNat ≤ sizeLine) : B1 F W K (binaryOp .Mult) (.list ds) (.int n) (.list (List.replicate n.toNat ds).flatten) := by
  intro H vx vy ii nx ny Q q
  cases ny
  cases nx with
  | lst a ra =>
    refine ⟨_, fun z => op_rep, _, n, _, rfl, rfl, a.2, h0, h1, by rw [ra.length]; exact hz, fun p hp => ?_⟩
    obtain ⟨x2, i2, d2⟩ := new_lst ii hp (ra.rep n.toNat)
    exact q _ _ _ x2 i2 d2.dv rfl
theorem b_catT (fm : Fam P w K mg base N k sc F) {ds es : List PyData} (hz : ds.length + es.length ≤ sizeLine) : B1 F W K (binaryOp .Add) (.tuple ds) (.tuple es) (.tuple (ds ++ es)) := by
  intro H vx vy ii nx ny Q q
  cases nx with
  | tup a ra =>
    cases ny with
    | tup b rb =>
      refine ⟨rCatA K, fun z => by have := op_catA (X := F z); rwa [fm.kk z] at this, _, _, _, _, rfl, rfl, a.sq, b.sq, by rw [ra.length, rb.length]; exact hz, fun e => ?_, fun _ e => ?_, fun _ _ p hp => ?_⟩
      · subst e
        cases ra
        exact q _ H _ (Wx.refl W H) ii (Dn.dv (.tup b rb)) rfl
      · subst e
        cases rb
        rw [List.append_nil] at q
        exact q _ H _ (Wx.refl W H) ii (Dn.dv (.tup a ra)) rfl
      · obtain ⟨x2, i2, d2⟩ := new_tup ii hp (ra.append rb)
        exact q _ _ _ x2 i2 d2.dv rfl
theorem b_catS {x y : Str} (hz : x.length + y.length ≤ sizeLine) : B1 F W K (binaryOp .Add) (.str x) (.str y) (.str (x ++ y)) := by
  intro H vx vy ii nx ny Q q
  cases nx
  cases ny
  exact ⟨_, fun z => op_add_str, x, y, rfl, rfl, hz, q _ H _ (Wx.refl W H) ii (Dn.dv (.str _)) rfl⟩
/-- repr -/
def WC (F : ι → Cx) (f : Value) : List V → Hp → VK → Prop := fun xs H Q => ∃ r, (∀ i, CallR (F i) f r) ∧ r xs H Q
theorem wc_call {f : Value} (i : ι) : CallR (F i) f (WC F f) := by
  intro pins s σ H xs us Q I rx ⟨r, hr, q⟩
  exact hr i pins s σ H xs us Q I rx q
/-- a call of f by data -/
def Cal (F : ι → Cx) (W : Wd) (K : PySem.W.Frag) (f : Value) (ds : List PyData) (R : Sl → Prop) : Prop :=
  ∀ (H : Hp) (vs : List V), W.I H → DnAll W K H vs ds → ∀ Q : VK, (∀ v H' r, Wx W H H' → W.I H' → Dv W K H' (some v) r → R r → Q v H') → WC F f vs H Q
abbrev C1 (F : ι → Cx) (W : Wd) (K : PySem.W.Frag) (f : Value) (ds : List PyData) (z : PyData) : Prop := Cal F W K f ds fun s => s = .dat z
theorem ev_callB (fm : Fam P w K mg base N k sc F) {x : Str} {id : String} {p pos : Pos} {e : Expr} {es : List Expr} {ds : List PyData} {R : Sl → Prop} (ha : A1 F W K (e :: es) env ds) (hm : mg x = none) (hc : Cal F W K (.builtin id) ds R) (hv : bootBuiltins x = some (.builtin id) := by decide +kernel)
    (hg : glB sc x = true := by decide +kernel) (hn : x ≠ "__name__" := by decide) (hdb : (x == ("__debug__" : Str)) = false := by decide) (st : ∀ i, starEach (e :: es) (F i).env = (false, eval e (F i).env) :: starEach es (F i).env := by intro _; rfl) (pl : ∀ i, (backTo pos (starEach es (F i).env)).any (·.1) = false := by intro _; rfl) :
    Ev F W K (.Call (.Name x p) (e :: es) [] pos) env R := by
  intro σ H i sd Q q
  refine ⟨tCB (WC F (.builtin id)) (WA F (e :: es)), fun z => pe_callB (wc_call z) (gl_of (fm.es z) hg) (by rw [fm.mg z]; exact hm) hv (wa_pa z) hn hdb (st z) (pl z), ?_⟩
  refine ha σ H i sd _ fun vs H1 rs x1 i1 d1 h1 => ?_
  subst h1
  exact hc H1 vs i1 (dn_of_sd d1) Q fun v H' r x' i' d h => q v H' r (x1.trans x') i' d h
theorem ev_callTy (fm : Fam P w K mg base N k sc F) {x : Str} {id : String} {p pos : Pos} {e : Expr} {es : List Expr} {ds : List PyData} {R : Sl → Prop} (ha : A1 F W K (e :: es) env ds) (hm : mg x = none) (hc : Cal F W K (.type id) ds R) (hv : bootBuiltins x = some (.type id) := by decide +kernel)
    (hg : glB sc x = true := by decide +kernel) (hn : x ≠ "__name__" := by decide) (hdb : (x == ("__debug__" : Str)) = false := by decide) (st : ∀ i, starEach (e :: es) (F i).env = (false, eval e (F i).env) :: starEach es (F i).env := by intro _; rfl) (pl : ∀ i, (backTo pos (starEach es (F i).env)).any (·.1) = false := by intro _; rfl) :
    Ev F W K (.Call (.Name x p) (e :: es) [] pos) env R := by
  intro σ H i sd Q q
  refine ⟨tCB (WC F (.type id)) (WA F (e :: es)), fun z => pe_callTy (wc_call z) (gl_of (fm.es z) hg) (by rw [fm.mg z]; exact hm) hv (wa_pa z) hn hdb (st z) (pl z), ?_⟩
  refine ha σ H i sd _ fun vs H1 rs x1 i1 d1 h1 => ?_
  subst h1
  exact hc H1 vs i1 (dn_of_sd d1) Q fun v H' r x' i' d h => q v H' r (x1.trans x') i' d h

/-! ### built-ins by data -/
theorem call1 {f : Value} {z : PyData} {ds : List PyData} {u : V} (h : ∀ (H : Hp) (vs : List V), DnAll W K H vs ds → ∃ r, (∀ i, CallR (F i) f r) ∧ ∀ Q : VK, Q u H → r vs H Q) (dz : ∀ H, Dn W K H u z) : C1 F W K f ds z := by
  intro H vs ii dn Q q
  obtain ⟨r, hr, hq⟩ := h H vs dn
  exact ⟨r, hr, hq Q (q u H _ (Wx.refl W H) ii (dz H).dv rfl)⟩
theorem c_abs {n : Int} : C1 F W K (.builtin "abs") [.int n] (.int (if n < 0 then -n else n)) := call1 (fun H vs dn => by
  cases dn with
  | cons a t =>
    cases a
    cases t
    exact ⟨_, fun i => call_abs, fun Q q => ⟨n, rfl, q⟩⟩) fun H => .int _
theorem c_int {n : Int} : C1 F W K (.type "int") [.int n] (.int n) := call1 (fun H vs dn => by
  cases dn with
  | cons a t =>
    cases a
    cases t
    exact ⟨_, fun i => call_int1, fun Q q => Or.inl ⟨n, rfl, q⟩⟩) fun H => .int _
theorem c_intB {b : Bool} : C1 F W K (.type "int") [.bool b] (.int (if b then 1 else 0)) := call1 (fun H vs dn => by
  cases dn with
  | cons a t =>
    cases a
    cases t
    exact ⟨_, fun i => call_int1, fun Q q => Or.inr ⟨b, rfl, q⟩⟩) fun H => .int _
theorem c_max (fm : Fam P w K mg base N k sc F) {n m : Int} : C1 F W K (.builtin "max") [.int n, .int m] (.int (if m > n then m else n)) := call1 (fun H vs dn => by
  cases dn with
  | cons a t =>
    cases a
    cases t with
    | cons b t =>
      cases b
      cases t
      exact ⟨_, fun i => call_max2 (fm.ca i), fun Q q => ⟨n, m, rfl, q⟩⟩) fun H => .int _
theorem c_min (fm : Fam P w K mg base N k sc F) {n m : Int} : C1 F W K (.builtin "min") [.int n, .int m] (.int (if m < n then m else n)) := call1 (fun H vs dn => by
  cases dn with
  | cons a t =>
    cases a
    cases t with
    | cons b t =>
      cases b
      cases t
      exact ⟨_, fun i => call_min2 (fm.ca i), fun Q q => ⟨n, m, rfl, q⟩⟩) fun H => .int _
def rLn (K : PySem.W.Frag) : List V → Hp → VK → Prop := fun xs H Q => ∃ p ys, xs = [.ref p] ∧ (SqL K H p ys ∨ SqT K H p ys) ∧ Q (.int ys.length) H
theorem call_ln (fm : Fam P w K mg base N k sc F) (i : ι) : CallR (F i) (.builtin "len") (rLn K) := by
  have := call_len_seq (X := F i)
  rwa [fm.kk i] at this
theorem c_lenL (fm : Fam P w K mg base N k sc F) {ds : List PyData} : C1 F W K (.builtin "len") [.list ds] (.int (ds.length : Int)) := call1 (fun H vs dn => by
  cases dn with
  | cons a t =>
    cases t
    cases a with
    | lst a r => exact ⟨_, call_ln fm, fun Q q => ⟨_, _, rfl, Or.inl a.sq, by rw [r.length]; exact q⟩⟩) fun H => .int _
theorem c_lenT (fm : Fam P w K mg base N k sc F) {ds : List PyData} : C1 F W K (.builtin "len") [.tuple ds] (.int (ds.length : Int)) := call1 (fun H vs dn => by
  cases dn with
  | cons a t =>
    cases t
    cases a with
    | tup a r => exact ⟨_, call_ln fm, fun Q q => ⟨_, _, rfl, Or.inr a.sq, by rw [r.length]; exact q⟩⟩) fun H => .int _
theorem c_lenS {z : Str} (hz : z.length ≤ sizeLine) : C1 F W K (.builtin "len") [.str z] (.int (z.length : Int)) := call1 (fun H vs dn => by
  cases dn with
  | cons a t =>
    cases t
    cases a
    exact ⟨_, fun i => call_len_str, fun Q q => ⟨z, rfl, hz, q⟩⟩) fun H => .int _
/-- repr of data -/
def rRp (K : PySem.W.Frag) : List V → Hp → VK → Prop := fun xs H Q => ∃ v d, xs = [v] ∧ Dp K H v d ∧ d.showable = true ∧ d.hasDict = false ∧ d.shown.length ≤ sizeLine ∧ d.depth ≤ 60 ∧ Q (.str d.shown) H
theorem call_rp {X : Cx} (hu : X.A.units + 64 < cLine) (hg : X.A.guards = some []) : CallR X (.builtin "repr") (rRp X.K) := by
  intro pins s σ H xs us Q I r h
  obtain ⟨v, d, rfl, dp, sh, nd, hz, hd, q⟩ := h
  obtain ⟨u, rfl, rv⟩ := vals1 r
  obtain ⟨as, rd⟩ := Dp.reads I d v u dp rv
  have fin : ∀ (t : Tok) (n : Nat), EP X pins σ Q (.str d.shown t) { s with toks := n } := fun t n => ⟨.str _, H, I.tok _, ⟨t, rfl⟩, q⟩
  cases dp with
  | non =>
    cases rv
    exact PySem.P.repr_of_none (fin _ _)
  | bl b =>
    cases rv
    exact PySem.P.repr_of_bool (by cases b <;> exact fin _ _)
  | int i =>
    obtain ⟨t, rfl⟩ := rv
    exact PySem.P.repr_of_int (of_decide_eq_true (by simpa [PyData.showable] using sh)) (fin _ _)
  | str x =>
    obtain ⟨t, rfl⟩ := rv
    exact PySem.P.repr_of_str (fin _ _) (by simpa only [PyData.shown] using hz)
  | lst a b =>
    cases rv
    exact repr_of_reads' rd sh (fun c => by rw [nd] at c; cases c) hg (by omega) (fun _ _ z => z) (fun h' t n keep => ⟨.str _, H, I.kept keep, ⟨t, rfl⟩, q⟩) hz
  | tup a b =>
    cases rv
    exact repr_of_reads' rd sh (fun c => by rw [nd] at c; cases c) hg (by omega) (fun _ _ z => z) (fun h' t n keep => ⟨.str _, H, I.kept keep, ⟨t, rfl⟩, q⟩) hz
/-- what repr can tell -/
structure Shows (d : PyData) : Prop where
  sh : d.showable = true
  nd : noDict d = true
  sz : d.shown.length ≤ sizeLine
  dp : d.depth ≤ 60
theorem c_repr (fm : Fam P w K mg base N k sc F) {d : PyData} (s : Shows d) : C1 F W K (.builtin "repr") [d] (.str d.shown) := call1 (fun H vs dn => by
  cases dn with
  | cons a t =>
    cases t
    exact ⟨rRp K, fun i => by have := call_rp (fm.ro i).units (fm.gu i); rwa [fm.kk i] at this, fun Q q => ⟨_, d, rfl, a.dp s.nd, s.sh, noDict_has d s.nd, s.sz, s.dp, q⟩⟩) fun H => .str _

/-! ### subscripts and slices -/
def WX (F : ι → Cx) : R2 := fun x y H Q => ∃ r, (∀ i, IxR (F i) r) ∧ r x y H Q
theorem wx_ix (i : ι) : IxR (F i) (WX F) := by
  intro value slice pins s σ H x y v u Q I rx ry ⟨r, hr, q⟩ hs
  exact hr i value slice pins s σ H x y v u Q I rx ry q hs
def Idx (F : ι → Cx) (W : Wd) (K : PySem.W.Frag) (x y : PyData) (R : Sl → Prop) : Prop :=
  ∀ (H : Hp) (vx vy : V), W.I H → Dn W K H vx x → Dn W K H vy y → ∀ Q : VK, (∀ v H' r, Wx W H H' → W.I H' → Dv W K H' (some v) r → R r → Q v H') → WX F vx vy H Q
theorem ev_ixN {a b : Expr} {pos : Pos} {Ra Rb R : Sl → Prop} (ha : Ev F W K a env Ra) (hb : Ev F W K b env Rb) (ho : ∀ x y, Ra x → Rb y → ∃ dx dy, x = .dat dx ∧ y = .dat dy ∧ Idx F W K dx dy R) (hs : PlainIx b := by exact fun _ _ => rfl) :
    Ev F W K (.Subscript a b pos) env R := by
  intro σ H i sd Q q
  refine ⟨tOp (WX F) (WE F a) (WE F b), fun z => pe_ix (wx_ix z) (we_pe z) (we_pe z) hs, ?_⟩
  refine ha σ H i sd _ fun v1 H1 r1 x1 i1 d1 h1 => ?_
  refine hb σ H1 i1 (sd.mono x1) _ fun v2 H2 r2 x2 i2 d2 h2 => ?_
  obtain ⟨dx, dy, rfl, rfl, hB⟩ := ho r1 r2 h1 h2
  obtain ⟨u1, z1, n1⟩ := d1
  obtain ⟨u2, z2, n2⟩ := d2
  cases z1
  cases z2
  exact hB H2 v1 v2 i2 (n1.mono x2) n2 Q fun v H' r x3 i3 d3 h3 => q v H' r ((x1.trans x2).trans x3) i3 d3 h3
theorem ev_ix {a b : Expr} {pos : Pos} {x y z : PyData} (ha : E1 F W K a env (.dat x)) (hb : E1 F W K b env (.dat y)) (ho : Idx F W K x y fun s => s = .dat z) (hs : PlainIx b := by exact fun _ _ => rfl) : E1 F W K (.Subscript a b pos) env (.dat z) :=
  ev_ixN ha hb (fun _ _ e1 e2 => ⟨x, y, e1, e2, ho⟩) hs
theorem atI_dn {H : Hp} {vs : List V} {ds : List PyData} {i : Int} {d : PyData} (h : DnAll W K H vs ds) (e : atI ds i = some d) : ∃ v, atI vs i = some v ∧ Dn W K H v d := by
  unfold atI at e ⊢
  rw [h.length]
  match hq : ixN ds.length i with
  | none => rw [hq] at e; cases e
  | some j =>
    rw [hq] at e
    exact h.get (i := j) e
theorem i_list (fm : Fam P w K mg base N k sc F) {ds : List PyData} {i : Int} {d : PyData} (e : atI ds i = some d) : Idx F W K (.list ds) (.int i) fun s => s = .dat d := by
  intro H vx vy ii nx ny Q q
  cases ny
  cases nx with
  | lst a r =>
    obtain ⟨v, e2, dn⟩ := atI_dn r e
    exact ⟨rIxL K, fun z => by have := ix_list (X := F z); rwa [fm.kk z] at this, _, _, i, v, rfl, rfl, a.sq, e2, q v H _ (Wx.refl W H) ii dn.dv rfl⟩
theorem i_tup (fm : Fam P w K mg base N k sc F) {ds : List PyData} {i : Int} {d : PyData} (e : atI ds i = some d) : Idx F W K (.tuple ds) (.int i) fun s => s = .dat d := by
  intro H vx vy ii nx ny Q q
  cases ny
  cases nx with
  | tup a r =>
    obtain ⟨v, e2, dn⟩ := atI_dn r e
    exact ⟨rIxT K, fun z => by have := ix_tup (X := F z); rwa [fm.kk z] at this, _, _, i, v, rfl, rfl, a.sq, e2, q v H _ (Wx.refl W H) ii dn.dv rfl⟩
theorem i_str {z : Str} {i : Int} {c : Nat} (hz : z.length ≤ sizeLine) (e : atI z.cps.toList i = some c) : Idx F W K (.str z) (.int i) fun s => s = .dat (.str ⟨#[c]⟩) := by
  intro H vx vy ii nx ny Q q
  cases ny
  cases nx
  exact ⟨rIxS, fun z => ix_str, z, i, c, rfl, rfl, hz, e, q _ H _ (Wx.refl W H) ii (Dn.dv (.str _)) rfl⟩
/-- slices -/
def EvO (F : ι → Cx) (W : Wd) (K : PySem.W.Frag) (e : Option Expr) (env : List Sl) (o : Option Int) : Prop := ∃ to : TO, (∀ i, PO (F i) e to) ∧
  ∀ (σ : L2.St) (H : Hp), W.I H → Sd W K H σ env → ∀ Q : Option Int → Hp → Prop, (∀ H', Wx W H H' → W.I H' → Q o H') → to σ H Q
theorem eo_none : EvO F W K none env none := ⟨tNoPart, fun _ => po_none, fun σ H i sd Q q => q H (Wx.refl W H) i⟩
theorem eo_some {e : Expr} {n : Int} (h : E1 F W K e env (.dat (.int n))) : EvO F W K (some e) env (some n) := ⟨tPart (WE F e), fun z => po_some (we_pe z), fun σ H i sd Q q => by
  refine h σ H i sd _ fun v H1 r x1 i1 d1 h1 => ?_
  subst h1
  obtain ⟨u, z, n1⟩ := d1
  cases z
  cases n1
  exact ⟨n, rfl, q H1 x1 i1⟩⟩
def cutD (ds : List PyData) (lo hi : Option Int) : List PyData := (ds.drop (HT.sIx ds.length 0 lo)).take (HT.sIx ds.length ds.length hi - HT.sIx ds.length 0 lo)
theorem cut_dn {H : Hp} {vs : List V} {ds : List PyData} {lo hi : Option Int} (h : DnAll W K H vs ds) : DnAll W K H (cutV vs lo hi) (cutD ds lo hi) := by
  unfold cutV cutD
  rw [h.length]
  exact (h.drop _).take _
theorem ev_cutL (fm : Fam P w K mg base N k sc F) {e : Expr} {lo hi : Option Expr} {p1 pos : Pos} {ds : List PyData} {l h : Option Int} (he : E1 F W K e env (.dat (.list ds))) (hl : EvO F W K lo env l) (hh : EvO F W K hi env h) : E1 F W K (.Subscript e (.Slice lo hi none p1) pos) env (.dat (.list (cutD ds l h))) := by
  intro σ H i sd Q q
  obtain ⟨tl, pl, ql⟩ := hl
  obtain ⟨th, ph, qh⟩ := hh
  refine ⟨tSl (rSlL K) (WE F e) tl th, fun z => pe_slice (by have := sl_list (X := F z); rwa [fm.kk z] at this) (we_pe z) (pl z) (ph z), ?_⟩
  refine he σ H i sd _ fun v H1 r x1 i1 d1 h1 => ?_
  subst h1
  refine ql σ H1 i1 (sd.mono x1) _ fun H2 x2 i2 => ?_
  refine qh σ H2 i2 (sd.mono (x1.trans x2)) _ fun H3 x3 i3 => ?_
  obtain ⟨u, z, n1⟩ := d1
  cases z
  cases n1 with
  | lst a rr =>
    refine ⟨_, _, rfl, ((a.mono x2).mono x3).sq, fun p hp => ?_⟩
    obtain ⟨x4, i4, d4⟩ := new_lst i3 hp (cut_dn (lo := l) (hi := h) ((rr.mono x2).mono x3))
    exact q _ _ _ (((x1.trans x2).trans x3).trans x4) i4 d4.dv rfl
theorem ev_cutT (fm : Fam P w K mg base N k sc F) {e : Expr} {lo hi : Option Expr} {p1 pos : Pos} {ds : List PyData} {l h : Option Int} (he : E1 F W K e env (.dat (.tuple ds))) (hl : EvO F W K lo env l) (hh : EvO F W K hi env h) : E1 F W K (.Subscript e (.Slice lo hi none p1) pos) env (.dat (.tuple (cutD ds l h))) := by
  intro σ H i sd Q q
  obtain ⟨tl, pl, ql⟩ := hl
  obtain ⟨th, ph, qh⟩ := hh
  refine ⟨tSl (rSlA K) (WE F e) tl th, fun z => pe_slice (by have := sl_tupA (X := F z); rwa [fm.kk z] at this) (we_pe z) (pl z) (ph z), ?_⟩
  refine he σ H i sd _ fun v H1 r x1 i1 d1 h1 => ?_
  subst h1
  refine ql σ H1 i1 (sd.mono x1) _ fun H2 x2 i2 => ?_
  refine qh σ H2 i2 (sd.mono (x1.trans x2)) _ fun H3 x3 i3 => ?_
  obtain ⟨u, z, n1⟩ := d1
  cases z
  cases n1 with
  | tup a rr =>
    have all := (rr.mono x2).mono x3
    refine ⟨_, _, rfl, ((a.mono x2).mono x3).sq, fun whole => ?_, fun _ p hp => ?_⟩
    · refine q _ _ _ ((x1.trans x2).trans x3) i3 (Dn.dv (.tup ((a.mono x2).mono x3) ?_)) rfl
      have e2 : cutD ds l h = ds := by
        unfold cutD
        rw [rr.length] at whole
        rw [whole.1, whole.2, List.drop_zero, Nat.sub_zero, List.take_length]
      rw [e2]
      exact all
    · obtain ⟨x4, i4, d4⟩ := new_tup i3 hp (cut_dn (lo := l) (hi := h) all)
      exact q _ _ _ (((x1.trans x2).trans x3).trans x4) i4 d4.dv rfl

/-! ### if, and, or, not -/
theorem ev_if {c a b : Expr} {pos : Pos} {Rc : Bool → Prop} {R : Sl → Prop} (hc : EvT F W K c env Rc) (ha : Rc true → Ev F W K a env R) (hb : Rc false → Ev F W K b env R) : Ev F W K (.IfExp c a b pos) env R := by
  intro σ H i sd Q q
  refine ⟨tIf (WT F c) (WE F a) (WE F b), fun z => pe_ifExp (wt_pt z) (we_pe z) (we_pe z), ?_⟩
  refine hc σ H i sd _ fun t H1 x1 i1 h1 => ?_
  cases t with
  | true => exact ha h1 σ H1 i1 (sd.mono x1) Q fun v H' r x i' d h => q v H' r (x1.trans x) i' d h
  | false => exact hb h1 σ H1 i1 (sd.mono x1) Q fun v H' r x i' d h => q v H' r (x1.trans x) i' d h
theorem et_not {a : Expr} {pos : Pos} {c : Bool} (h : T1 F W K a env c) : T1 F W K (.UnaryOp .Not a pos) env (!c) := by
  intro σ H i sd Q q
  refine ⟨tNot (WT F a), fun z => pt_not (wt_pt z), ?_⟩
  refine h σ H i sd _ fun t H1 x1 i1 h1 => ?_
  subst h1
  exact q _ H1 x1 i1 rfl
theorem et_w {a : Expr} {R : Bool → Prop} (h : EvW F W K a env R) : EvT F W K a env R := fun σ H i sd Q q => by
  obtain ⟨t, ht, hq⟩ := h σ H i sd Q q
  exact ⟨t, fun z => (ht z).pt, hq⟩
theorem ew_and1 {a : Expr} {pos : Pos} {R : Bool → Prop} (h : EvT F W K a env R) : EvW F W K (.BoolOp .And [a] pos) env R := fun σ H i sd Q q => ⟨WT F a, fun z => pw_and1 (wt_pt z), h σ H i sd Q q⟩
theorem ew_or1 {a : Expr} {pos : Pos} {R : Bool → Prop} (h : EvT F W K a env R) : EvW F W K (.BoolOp .Or [a] pos) env R := fun σ H i sd Q q => ⟨WT F a, fun z => pw_or1 (wt_pt z), h σ H i sd Q q⟩
theorem ew_and {a b : Expr} {rest : List Expr} {pos : Pos} {Ra R : Bool → Prop} (ha : EvT F W K a env Ra) (hb : Ra true → EvW F W K (.BoolOp .And (b :: rest) pos) env R) (h0 : Ra false → R false) : EvW F W K (.BoolOp .And (a :: b :: rest) pos) env R := fun σ H i sd Q q => by
  refine ⟨tAnd (WT F a) (WW F (.BoolOp .And (b :: rest) pos)), fun z => pw_and (wt_pt z) (ww_pw z), ?_⟩
  refine ha σ H i sd _ fun t H1 x1 i1 h1 => ?_
  cases t with
  | true => exact hb h1 σ H1 i1 (sd.mono x1) Q fun c H' x i' h => q c H' (x1.trans x) i' h
  | false => exact q false H1 x1 i1 (h0 h1)
theorem ew_or {a b : Expr} {rest : List Expr} {pos : Pos} {Ra R : Bool → Prop} (ha : EvT F W K a env Ra) (hb : Ra false → EvW F W K (.BoolOp .Or (b :: rest) pos) env R) (h0 : Ra true → R true) : EvW F W K (.BoolOp .Or (a :: b :: rest) pos) env R := fun σ H i sd Q q => by
  refine ⟨tOr (WT F a) (WW F (.BoolOp .Or (b :: rest) pos)), fun z => pw_or (wt_pt z) (ww_pw z), ?_⟩
  refine ha σ H i sd _ fun t H1 x1 i1 h1 => ?_
  cases t with
  | false => exact hb h1 σ H1 i1 (sd.mono x1) Q fun c H' x i' h => q c H' (x1.trans x) i' h
  | true => exact q true H1 x1 i1 (h0 h1)
/-- two tests with known answers -/
theorem et_and2 {a b : Expr} {pos : Pos} {c d : Bool} (ha : T1 F W K a env c) (hb : c = true → T1 F W K b env d) : T1 F W K (.BoolOp .And [a, b] pos) env (c && d) :=
  et_w (ew_and ha (fun z => ew_and1 ((hb z.symm).imp fun r e => by rw [← z, e]; rfl)) fun z => by rw [← z]; rfl)
theorem et_or2 {a b : Expr} {pos : Pos} {c d : Bool} (ha : T1 F W K a env c) (hb : c = false → T1 F W K b env d) : T1 F W K (.BoolOp .Or [a, b] pos) env (c || d) :=
  et_w (ew_or ha (fun z => ew_or1 ((hb z.symm).imp fun r e => by rw [← z, e]; rfl)) fun z => by rw [← z]; rfl)
/-- .. as values -/
theorem ev_one {a : Expr} {op} {pos : Pos} {R : Sl → Prop} (h : Ev F W K a env R) : Ev F W K (.BoolOp op [a] pos) env R := fun σ H i sd Q q => ⟨WE F a, fun z => pe_one (we_pe z), h σ H i sd Q q⟩
theorem ev_and {a b : Expr} {rest : List Expr} {pos : Pos} {c : Bool} {R : Sl → Prop} (ha : E1 F W K a env (.dat (.bool c))) (hb : c = true → Ev F W K (.BoolOp .And (b :: rest) pos) env R) (h0 : c = false → R (.dat (.bool false))) : Ev F W K (.BoolOp .And (a :: b :: rest) pos) env R := fun σ H i sd Q q => by
  refine ⟨tAndV (WE F a) (WE F (.BoolOp .And (b :: rest) pos)), fun z => pe_and (we_pe z) (we_pe z), ?_⟩
  refine ha σ H i sd _ fun v H1 r x1 i1 d1 h1 => ?_
  subst h1
  obtain ⟨u, z, n1⟩ := d1
  cases z
  cases n1
  refine ⟨c, rfl, ?_⟩
  cases c with
  | true => exact hb rfl σ H1 i1 (sd.mono x1) Q fun v H' r x i' d h => q v H' r (x1.trans x) i' d h
  | false => exact q _ H1 _ x1 i1 (Dn.dv (.bl false)) (h0 rfl)
theorem ev_or {a b : Expr} {rest : List Expr} {pos : Pos} {c : Bool} {R : Sl → Prop} (ha : E1 F W K a env (.dat (.bool c))) (hb : c = false → Ev F W K (.BoolOp .Or (b :: rest) pos) env R) (h0 : c = true → R (.dat (.bool true))) : Ev F W K (.BoolOp .Or (a :: b :: rest) pos) env R := fun σ H i sd Q q => by
  refine ⟨tOrV (WE F a) (WE F (.BoolOp .Or (b :: rest) pos)), fun z => pe_or (we_pe z) (we_pe z), ?_⟩
  refine ha σ H i sd _ fun v H1 r x1 i1 d1 h1 => ?_
  subst h1
  obtain ⟨u, z, n1⟩ := d1
  cases z
  cases n1
  refine ⟨c, rfl, ?_⟩
  cases c with
  | false => exact hb rfl σ H1 i1 (sd.mono x1) Q fun v H' r x i' d h => q v H' r (x1.trans x) i' d h
  | true => exact q _ H1 _ x1 i1 (Dn.dv (.bl true)) (h0 rfl)
theorem ev_not {a : Expr} {pos : Pos} {c : Bool} (ha : E1 F W K a env (.dat (.bool c))) : E1 F W K (.UnaryOp .Not a pos) env (.dat (.bool (!c))) := fun σ H i sd Q q => by
  refine ⟨tNotV (WE F a), fun z => pe_not (we_pe z), ?_⟩
  refine ha σ H i sd _ fun v H1 r x1 i1 d1 h1 => ?_
  subst h1
  obtain ⟨u, z, n1⟩ := d1
  cases z
  cases n1
  exact ⟨c, rfl, q _ H1 _ x1 i1 (Dn.dv (.bl _)) rfl⟩
theorem ev_neg {a : Expr} {pos : Pos} {n : Int} (ha : E1 F W K a env (.dat (.int n))) : E1 F W K (.UnaryOp .USub a pos) env (.dat (.int (-n))) := fun σ H i sd Q q => by
  refine ⟨tUn _ (WE F a), fun z => pe_un un_neg (we_pe z), ?_⟩
  refine ha σ H i sd _ fun v H1 r x1 i1 d1 h1 => ?_
  subst h1
  obtain ⟨u, z, n1⟩ := d1
  cases z
  cases n1
  exact ⟨n, rfl, q _ H1 _ x1 i1 (Dn.dv (.int _)) rfl⟩
end
end Cr

set_option Elab.async false
set_option linter.all false
set_option maxRecDepth 100000
set_option maxHeartbeats 4000000
namespace Cr
open PySem PySem.Spec PyProof.Rows L2
section
variable {ι : Type} {F : ι → Cx} {P : Program} {w : World} {K : PySem.W.Frag} {mg : Str → Option Value} {base : Heap} {N : List Str} {k : Nat} {sc : Scope} {W : Wd} {env : List Sl}

/-! ### targets -/
theorem tg_name (fm : Fam P w K mg base N k sc F) {x : Str} {pos : Pos} {r : Sl} (j : Nat) (hN : N[j]? = some x) (hx : locB sc x = true := by decide +kernel)
    (hf : ∀ i, (F i).fn x = true ∨ (F i).env.scope.names.lookup x = some .local := by intro _; first | exact Or.inl rfl | exact Or.inr rfl) : Tg F W K (.Name x pos) r env (env.set j r) := by
  intro v σ H i sd dv Q q
  exact ⟨gName j, fun z => pg_name (by rw [fm.nn z]; exact fm.nd) (by rw [fm.nn z]; exact hN) (loc_of (fm.es z) hx) (hf z), q _ H (Wx.refl W H) i (Sd.set dv j sd)⟩
theorem tgs_nil : Tgs F W K [] [] env env := by
  intro vs σ H i sd sv Q q
  match vs, sv with
  | [], _ => exact ⟨gNil, fun _ => pgs_nil, rfl, q _ H (Wx.refl W H) i sd⟩
theorem tgs_cons {e : Expr} {es : List Expr} {r : Sl} {rs : List Sl} {env1 env2 : List Sl} (h : Tg F W K e r env env1) (hs : Tgs F W K es rs env1 env2)
    (st : ∀ i, (assignEach (e :: es) (F i).env).map (·.2) = assign e (F i).env :: (assignEach es (F i).env).map (·.2) := by intro _; rfl) : Tgs F W K (e :: es) (r :: rs) env env2 := by
  intro vs σ H i sd sv Q q
  match vs, sv with
  | v :: vs, ⟨dv, sv⟩ =>
    refine ⟨gCons (WG F e) (WGs F es), fun z => pgs_cons (wg_pg z) (wgs_pgs z) (st z), v, vs, rfl, ?_⟩
    refine h v σ H i sd dv _ fun σ1 H1 x1 i1 sd1 => ?_
    exact hs vs σ1 H1 i1 sd1 (sv.mono x1) Q fun σ2 H2 x2 => q σ2 H2 (x1.trans x2)
theorem tg_tup (fm : Fam P w K mg base N k sc F) {es : List Expr} {k1 : Nat} {pos : Pos} {ds : List PyData} {env1 : List Sl} (h : Tgs F W K es (ds.map .dat) env env1) (n : Nat) (hl : ds.length = n) (hn : ∀ i, (assignEach es (F i).env).length = n := by intro _; rfl)
    (hst : ∀ i, (assignEach es (F i).env).findIdx? (·.1) = none := by intro _; rfl) : Tg F W K (.Tuple es k1 pos) (.dat (.tuple ds)) env env1 := by
  intro v σ H i sd dv Q q
  obtain ⟨u, e, dn⟩ := dv
  cases e
  cases dn with
  | tup a r =>
    refine ⟨gTup K n (WGs F es), fun z => by have := pg_tup (k := k1) (pos := pos) (fm.ca z) (wgs_pgs (F := F) (ts := es) z) (hn z) (hst z); rwa [fm.kk z] at this, _, _, rfl, a.sq, r.length.trans hl, ?_⟩
    exact h _ σ H i sd (sd_of_dn r) Q q
theorem tg_unl (fm : Fam P w K mg base N k sc F) {es : List Expr} {k1 : Nat} {pos : Pos} {ds : List PyData} {env1 : List Sl} (h : Tgs F W K es (ds.map .dat) env env1) (n : Nat) (hl : ds.length = n) (hn : ∀ i, (assignEach es (F i).env).length = n := by intro _; rfl)
    (hst : ∀ i, (assignEach es (F i).env).findIdx? (·.1) = none := by intro _; rfl) : Tg F W K (.Tuple es k1 pos) (.dat (.list ds)) env env1 := by
  intro v σ H i sd dv Q q
  obtain ⟨u, e, dn⟩ := dv
  cases e
  cases dn with
  | lst a r =>
    refine ⟨gUnl K n (WGs F es), fun z => by have := pg_unl (k := k1) (pos := pos) (fm.ca z) (wgs_pgs (F := F) (ts := es) z) (hn z) (hst z); rwa [fm.kk z] at this, _, _, rfl, a.sq, r.length.trans hl, ?_⟩
    exact h _ σ H i sd (sd_of_dn r) Q q

/-! ### statements -/
theorem bd_nil {Po : Post} (h : Po.nx env) : Bd F W K [] env Po := fun σ H D i sd g => ⟨tNext, fun _ => pss_nil, g.nx σ H env (Wx.refl W H) i sd h⟩
/-- x = e -/
theorem bd_set (fm : Fam P w K mg base N k sc F) {x : Str} {e : Expr} {pos' pos : Pos} {rest : List Stmt} {R : Sl → Prop} {Po : Post} (j : Nat) (hN : N[j]? = some x) (he : Ev F W K e env R) (hr : ∀ r, R r → Bd F W K rest (env.set j r) Po)
    (hx : locB sc x = true := by decide +kernel) (hs : ∀ i, swapsWith e (some (.Name x pos')) pos.line (F i).env = pure false := by intro _; rfl)
    (hf : ∀ i, (F i).fn x = true ∨ (F i).env.scope.names.lookup x = some .local := by intro _; first | exact Or.inl rfl | exact Or.inr rfl) : Bd F W K (.Assign [.Name x pos'] e pos :: rest) env Po := by
  intro σ H D i sd g
  refine ⟨tSeq (tAsg (WE F e) (gName j)) (WS F rest), fun z => pss_cons (ps_set (by rw [fm.nn z]; exact fm.nd) (by rw [fm.nn z]; exact hN) (loc_of (fm.es z) hx) (we_pe z) (hs z) (hf z)) (ws_ps z), ?_⟩
  refine he σ H i sd _ fun v H1 r x1 i1 d1 h1 => ?_
  exact hr r h1 _ _ _ i1 (Sd.set d1 j (sd.mono x1)) (g.mono x1)
/-- target = e -/
theorem bd_asg {tg e : Expr} {pos : Pos} {rest : List Stmt} {R : Sl → Prop} {Po : Post} (he : Ev F W K e env R) (hr : ∀ r, R r → ∃ env', Tg F W K tg r env env' ∧ Bd F W K rest env' Po)
    (hs : ∀ i, swapsWithSole [tg] e pos.line (F i).env = pure false := by intro _; rfl) (hw : ∀ i, swappedStores [tg] e (F i).env = pure none := by intro _; rfl) (h1 : ∀ i, (assignEach [tg] (F i).env).map (·.2) = [assign tg (F i).env] := by intro _; rfl) :
    Bd F W K (.Assign [tg] e pos :: rest) env Po := by
  intro σ H D i sd g
  refine ⟨tSeq (tAsg (WE F e) (WG F tg)) (WS F rest), fun z => pss_cons (ps_asg (we_pe z) (wg_pg z) (hs z) (hw z) (h1 z)) (ws_ps z), ?_⟩
  refine he σ H i sd _ fun v H1 r x1 i1 d1 hh => ?_
  obtain ⟨env', ht, hb⟩ := hr r hh
  exact ht v σ H1 i1 (sd.mono x1) d1 _ fun σ2 H2 x2 i2 sd2 => hb σ2 H2 _ i2 sd2 (g.mono (x1.trans x2))
/-- a, b = x, y -/
theorem bd_par (fm : Fam P w K mg base N k sc F) {x y : Str} {a b : Expr} {px py pt pos : Pos} {kt k2 pt2} {rest : List Stmt} {R : List Sl → Prop} {Po : Post} (i j : Nat) (hi : N[i]? = some x) (hj : N[j]? = some y) (hij : i ≠ j) (ha : EvA F W K [a, b] env R)
    (hr : ∀ r, R r → ∃ r1 r2, r = [r1, r2] ∧ Bd F W K rest ((env.set i r1).set j r2) Po)
    (hx : lclB sc x = true := by decide +kernel) (hy : lclB sc y = true := by decide +kernel)
    (hw : ∀ i, swappedStores [.Tuple [.Name x px, .Name y py] kt pt] (.Tuple [a, b] k2 pt2) (F i).env = pure (some [x, y]) := by intro _; rfl) (hs : ∀ i, swapsWithSole [.Tuple [.Name x px, .Name y py] kt pt] (.Tuple [a, b] k2 pt2) pos.line (F i).env = pure false := by intro _; rfl) :
    Bd F W K (.Assign [.Tuple [.Name x px, .Name y py] kt pt] (.Tuple [a, b] k2 pt2) pos :: rest) env Po := by
  intro σ H D ii sd g
  refine ⟨tSeq (tPar i j (WA F [a, b])) (WS F rest), fun z => pss_cons (ps_par (fm.ca z) (by rw [fm.nn z]; exact fm.nd) (by rw [fm.nn z]; exact hi) (by rw [fm.nn z]; exact hj) hij (lcl_of (fm.es z) hx) (lcl_of (fm.es z) hy) (wa_pa z) (hw z) (hs z)) (ws_ps z), ?_⟩
  refine ha σ H ii sd _ fun vs H1 rs x1 i1 d1 h1 => ?_
  obtain ⟨r1, r2, rfl, hb⟩ := hr rs h1
  match vs, d1 with
  | [v, u], ⟨dv, du, _⟩ => exact ⟨v, u, rfl, hb _ _ _ i1 (Sd.set du j (Sd.set dv i (sd.mono x1))) (g.mono x1)⟩
theorem bd_if {c : Expr} {a b rest : List Stmt} {pos : Pos} {R : Bool → Prop} {Po : Post} (hc : EvT F W K c env R) (h1 : R true → Bd F W K a env { Po with nx := fun e => Bd F W K rest e Po }) (h2 : R false → Bd F W K b env { Po with nx := fun e => Bd F W K rest e Po }) : Bd F W K (.If c a b pos :: rest) env Po := by
  intro σ H D i sd g
  refine ⟨tSeq (tIfS (WT F c) (WS F a) (WS F b)) (WS F rest), fun z => pss_cons (ps_if (wt_pt z) (ws_ps z) (ws_ps z)) (ws_ps z), ?_⟩
  refine hc σ H i sd _ fun t H1 x1 i1 ht => ?_
  have gg : Good W K { Po with nx := fun e => Bd F W K rest e Po } { D with nx := WS F rest D } H1 :=
    ⟨fun σ' H' e y i' s' hb => hb σ' H' D i' s' (g.mono (x1.trans y)), (g.mono x1).rt, (g.mono x1).bk, (g.mono x1).ct⟩
  cases t with
  | true => exact h1 ht σ H1 _ i1 (sd.mono x1) gg
  | false => exact h2 ht σ H1 _ i1 (sd.mono x1) gg
theorem bd_ret {e : Expr} {pos : Pos} {rest : List Stmt} {R : Sl → Prop} {Po : Post} (he : Ev F W K e env R) (h : ∀ r, R r → Po.rt r) : Bd F W K (.Return (some e) pos :: rest) env Po := by
  intro σ H D i sd g
  refine ⟨tSeq (tRet (WE F e)) (WS F rest), fun z => pss_cons (ps_ret (we_pe z)) (ws_ps z), ?_⟩
  exact he σ H i sd _ fun v H1 r x1 i1 d1 h1 => g.rt v H1 r x1 i1 d1 (h r h1)
theorem bd_if1 {c : Expr} {a b rest : List Stmt} {pos : Pos} {t : Bool} {Po : Post} (hc : T1 F W K c env t) (h1 : t = true → Bd F W K a env { Po with nx := fun e => Bd F W K rest e Po }) (h2 : t = false → Bd F W K b env { Po with nx := fun e => Bd F W K rest e Po }) : Bd F W K (.If c a b pos :: rest) env Po :=
  bd_if hc (fun e => h1 e.symm) fun e => h2 e.symm
theorem bd_ret1 {e : Expr} {pos : Pos} {rest : List Stmt} {r : Sl} {Po : Post} (he : E1 F W K e env r) (h : Po.rt r) : Bd F W K (.Return (some e) pos :: rest) env Po := bd_ret he fun _ z => z ▸ h
theorem bd_set1 (fm : Fam P w K mg base N k sc F) {x : Str} {e : Expr} {pos' pos : Pos} {rest : List Stmt} {r : Sl} {Po : Post} (j : Nat) (hN : N[j]? = some x) (he : E1 F W K e env r) (hr : Bd F W K rest (env.set j r) Po)
    (hx : locB sc x = true := by decide +kernel) (hs : ∀ i, swapsWith e (some (.Name x pos')) pos.line (F i).env = pure false := by intro _; rfl)
    (hf : ∀ i, (F i).fn x = true ∨ (F i).env.scope.names.lookup x = some .local := by intro _; first | exact Or.inl rfl | exact Or.inr rfl) : Bd F W K (.Assign [.Name x pos'] e pos :: rest) env Po := bd_set fm j hN he (fun _ z => z ▸ hr) hx hs hf
theorem bd_asg1 {tg e : Expr} {pos : Pos} {rest : List Stmt} {r : Sl} {env' : List Sl} {Po : Post} (he : E1 F W K e env r) (ht : Tg F W K tg r env env') (hb : Bd F W K rest env' Po)
    (hs : ∀ i, swapsWithSole [tg] e pos.line (F i).env = pure false := by intro _; rfl) (hw : ∀ i, swappedStores [tg] e (F i).env = pure none := by intro _; rfl) (h1 : ∀ i, (assignEach [tg] (F i).env).map (·.2) = [assign tg (F i).env] := by intro _; rfl) :
    Bd F W K (.Assign [tg] e pos :: rest) env Po := bd_asg he (fun _ z => ⟨env', z ▸ ht, hb⟩) hs hw h1
theorem bd_drop {e : Expr} {pos : Pos} {rest : List Stmt} {R : Sl → Prop} {Po : Post} (he : Ev F W K e env R) (h : Bd F W K rest env Po) (hs : ∀ i, swapsWith e none pos.line (F i).env = pure false := by intro _; rfl) : Bd F W K (.Expr e pos :: rest) env Po := by
  intro σ H D i sd g
  refine ⟨tSeq (tDrop (WE F e)) (WS F rest), fun z => pss_cons (ps_expr (we_pe z) (hs z)) (ws_ps z), ?_⟩
  exact he σ H i sd _ fun v H1 r x1 i1 d1 h1 => h _ _ _ i1 (sd.mono x1) (g.mono x1)

/-! ### for -/
/-- for tg in range(n) -/
theorem bd_forR (fm : Fam P w K mg base N k sc F) {tg a : Expr} {p pc pos : Pos} {body rest : List Stmt} {Po : Post} {n : Nat} (Iv : Nat → List Sl → Prop) (ha : A1 F W K [a] env [.int (n : Int)]) (hn : n ≤ 1000000) (hm : mg "range" = none) (h0 : Iv 0 env)
    (hs : ∀ (i : Nat) env1, i < n → Iv i env1 → ∃ env2, Tg F W K tg (.dat (.int (i : Int))) env1 env2 ∧ Bd F W K body env2 { Po with nx := Iv (i + 1), ct := Iv (i + 1), bk := fun e => Bd F W K rest e Po }) (hd : ∀ env1, Iv n env1 → Bd F W K rest env1 Po)
    (hg : glB sc "range" = true := by decide +kernel) (hp : ∀ i, PassesOwn (model (F i).prog (F i).w) (F i).A (F i).env (F i).xe := by intro _; exact PassesOwn.never) (st : ∀ i, starEach [a] (F i).env = [(false, eval a (F i).env)] := by intro _; rfl)
    (hf : ∀ i x, foldedSetIterable (.Call (.Name "range" p) [a] [] pc) (F i).env x = pure x := by intro _ _; rfl) : Bd F W K (.For tg (.Call (.Name "range" p) [a] [] pc) body [] pos :: rest) env Po := by
  intro σ H D ii sd g
  refine ⟨tSeq (tFor (iRng1 (WA F [a])) (WG F tg) (WS F body)) (WS F rest), fun z => pss_cons (ps_for (hp z) (fm.ca z) (pi_range1 (gl_of (fm.es z) hg) (by rw [fm.mg z]; exact hm) (wa_pa z) (st z)) (wg_pg z) (ws_ps z) (hf z)) (ws_ps z), ?_⟩
  refine ha σ H ii sd _ fun vs H1 rs x1 i1 d1 h1 => ?_
  subst h1
  match vs, d1 with
  | [v], ⟨⟨u, e, dn⟩, _⟩ =>
    cases e
    cases dn
    refine ⟨(n : Int), rfl, by omega, by omega, for_range (lo := 0) (n := (n : Int).toNat) (fun i σ' H' => ∃ e, Wx W H H' ∧ W.I H' ∧ Sd W K H' σ' e ∧ Iv i e) ⟨env, x1, i1, sd.mono x1, h0⟩ ?_ ?_⟩
    · intro i σ' H' hi ⟨e, x', i', s', iv⟩
      have e0 : (0 : Int) + (i : Int) = (i : Int) := by omega
      obtain ⟨env2, ht, hb⟩ := hs i e (by omega) iv
      have q := ht (.int (i : Int)) σ' H' i' s' (Dn.dv (.int _))
      rw [e0]
      refine q _ fun σ2 H2 x2 i2 s2 => ?_
      refine hb σ2 H2 _ i2 s2 ⟨fun σ3 H3 e3 y j s3 h3 => ⟨e3, (x'.trans x2).trans y, j, s3, h3⟩, fun v H3 r y => g.rt v H3 r ((x'.trans x2).trans y), fun σ3 H3 e3 y j s3 h3 => h3 σ3 H3 D j s3 (g.mono ((x'.trans x2).trans y)), fun σ3 H3 e3 y j s3 h3 => ⟨e3, (x'.trans x2).trans y, j, s3, h3⟩⟩
    · intro σ' H' ⟨e, x', i', s', iv⟩
      exact hd e (by simpa using iv) σ' H' D i' s' (g.mono x')
theorem list_loop {tg : Expr} {body rest : List Stmt} {Po : Post} {a : Addr} {xs : List V} {ds : List PyData} {D : Ends} {H H1 : Hp} {σ : L2.St} (Iv : Nat → List Sl → Prop) (g : Good W K Po D H) (x1 : Wx W H H1) (i1 : W.I H1) (sd : Sd W K H1 σ env) (la : LA W K H1 a xs) (da : DnAll W K H1 xs ds) (h0 : Iv 0 env)
    (hs : ∀ (i : Nat) d env1, ds[i]? = some d → Iv i env1 → ∃ env2, Tg F W K tg (.dat d) env1 env2 ∧ Bd F W K body env2 { Po with nx := Iv (i + 1), ct := Iv (i + 1), bk := fun e => Bd F W K rest e Po }) (hd : ∀ env1, Iv ds.length env1 → Bd F W K rest env1 Po) :
    ∃ Wl : Nat → Nat → L2.St → Hp → Prop, (∃ m, Wl 0 m σ H1) ∧ ∀ i m σ H, Wl i m σ H → ((Itl K a).stop i H ∧ WS F rest D σ H) ∨ ((Itl K a).go i H ∧ ∃ Nn : L2.St → Hp → Prop, (∀ σ' H', Nn σ' H' → ∃ m', m' < m ∧ Wl (i + 1) m' σ' H') ∧ ∀ x H', (Itl K a).yld i H x H' → WG F tg x σ H' fun σ2 H2 => WS F body { D with nx := Nn, ct := Nn, bk := WS F rest D } σ2 H2) := by
  refine for_list (D := { D with nx := WS F rest D }) (fun i σ' H' => ∃ e, Wx W H1 H' ∧ W.I H' ∧ Sd W K H' σ' e ∧ Iv i e) ⟨env, Wx.refl W H1, i1, sd, h0⟩ (fun i σ' H' _ ⟨e, x', _⟩ => (la.mono x').sq) ?_ ?_
  · intro i x σ' H' hx ⟨e, x', i', s', iv⟩
    obtain ⟨d, hd2, dn⟩ := da.getV hx
    obtain ⟨env2, ht, hb⟩ := hs i d e hd2 iv
    refine ht x σ' H' i' s' (dn.mono x').dv _ fun σ2 H2 x2 i2 s2 => ?_
    refine hb σ2 H2 _ i2 s2 ⟨fun σ3 H3 e3 y j s3 h3 => ⟨e3, (x'.trans x2).trans y, j, s3, h3⟩, fun v H3 r y => g.rt v H3 r (x1.trans ((x'.trans x2).trans y)), fun σ3 H3 e3 y j s3 h3 => h3 σ3 H3 D j s3 (g.mono (x1.trans ((x'.trans x2).trans y))), fun σ3 H3 e3 y j s3 h3 => ⟨e3, (x'.trans x2).trans y, j, s3, h3⟩⟩
  · intro σ' H' ⟨e, x', i', s', iv⟩
    rw [da.length] at iv
    exact hd e iv σ' H' D i' s' (g.mono (x1.trans x'))
/-- for tg in a list -/
theorem bd_forL (fm : Fam P w K mg base N k sc F) {tg a : Expr} {pos : Pos} {body rest : List Stmt} {Po : Post} {ds : List PyData} (Iv : Nat → List Sl → Prop) (ha : E1 F W K a env (.dat (.list ds))) (h0 : Iv 0 env)
    (hs : ∀ (i : Nat) d env1, ds[i]? = some d → Iv i env1 → ∃ env2, Tg F W K tg (.dat d) env1 env2 ∧ Bd F W K body env2 { Po with nx := Iv (i + 1), ct := Iv (i + 1), bk := fun e => Bd F W K rest e Po }) (hd : ∀ env1, Iv ds.length env1 → Bd F W K rest env1 Po)
    (hp : ∀ i, PassesOwn (model (F i).prog (F i).w) (F i).A (F i).env (F i).xe := by intro _; exact PassesOwn.never) (hf : ∀ i x, foldedSetIterable a (F i).env x = pure x := by intro _ _; rfl) : Bd F W K (.For tg a body [] pos :: rest) env Po := by
  intro σ H D ii sd g
  refine ⟨tSeq (tFor (iList K (WE F a)) (WG F tg) (WS F body)) (WS F rest), fun z => pss_cons (ps_for (hp z) (fm.ca z) (by have := pi_list (tg := tg) (we_pe (F := F) (e := a) z); rwa [fm.kk z] at this) (wg_pg z) (ws_ps z) (hf z)) (ws_ps z), ?_⟩
  refine ha σ H ii sd _ fun v H1 r x1 i1 d1 h1 => ?_
  subst h1
  obtain ⟨u, e, dn⟩ := d1
  cases e
  cases dn with
  | lst la da => exact ⟨_, rfl, ⟨_, la.sq⟩, list_loop Iv g x1 i1 (sd.mono x1) la da h0 hs hd⟩
end
end Cr

set_option Elab.async false
set_option linter.all false
set_option maxRecDepth 100000
set_option maxHeartbeats 4000000
namespace Cr
open PySem PySem.Spec PyProof.Rows L2

/-! ## worlds with one object more -/
def Wd.plus (W : Wd) (D : Addr) (o : HO) : Wd where
  M a := W.M a ∨ a = D
  I H := W.I H ∧ H D = some o
  has H a i m := by
    rcases m with m | rfl
    · exact W.has H a i.1 m
    · rw [i.2]; exact fun c => nomatch c
  loc H H' i x := ⟨W.loc H H' i.1 fun a m => x a (Or.inl m), (x D (Or.inr rfl)).trans i.2⟩
/-- what may change stands as it does at H0 -/
def Wd.lock (W : Wd) (H0 : Hp) : Wd where
  M := W.M
  I H := W.I H ∧ ∀ a, W.M a → H a = H0 a
  has H a i m := W.has H a i.1 m
  loc H H' i x := ⟨W.loc H H' i.1 x, fun a m => (x a m).trans (i.2 a m)⟩
theorem lock_xt {W : Wd} {H H' : Hp} (x : Wx (W.lock H) H H') (i : (W.lock H).I H') : Xt H H' := fun a o h => by
  by_cases m : W.M a
  · rw [i.2 a m]; exact h
  · exact x a o m h
section
variable {W W' : Wd} {K : PySem.W.Frag} {H : Hp}
theorem LA.to {a : Addr} {xs : List V} (h : LA W K H a xs) (s : ∀ a, H a ≠ none → W'.M a → W.M a) : LA W' K H a xs := ⟨fun m => h.1 (s _ (by rw [h.2]; exact fun c => nomatch c) m), h.2⟩
theorem TA'.to {a : Addr} {xs : List V} (h : TA' W K H a xs) (s : ∀ a, H a ≠ none → W'.M a → W.M a) : TA' W' K H a xs := h.imp (fun ⟨n, e⟩ => ⟨fun m => n (s _ (by rw [e]; exact fun c => nomatch c) m), e⟩) id
mutual
theorem Dn.to (s : ∀ a, H a ≠ none → W'.M a → W.M a) : ∀ {d : PyData} {v : V}, Dn W K H v d → Dn W' K H v d
  | .none, _, h => by cases h; exact .non
  | .bool _, _, h => by cases h; exact .bl _
  | .int _, _, h => by cases h; exact .int _
  | .str _, _, h => by cases h; exact .str _
  | .list ds, _, h => by
    cases h with
    | lst a r => exact .lst (a.to s) (DnAll.to s r)
  | .tuple ds, _, h => by
    cases h with
    | tup a r => exact .tup (a.to s) (DnAll.to s r)
  | .dict es, _, h => by
    cases h with
    | dct n a r => exact .dct (fun m => n (s _ (by rw [a]; exact fun c => nomatch c) m)) a (DnKv.to s r)
theorem DnAll.to (s : ∀ a, H a ≠ none → W'.M a → W.M a) : ∀ {ds : List PyData} {vs : List V}, DnAll W K H vs ds → DnAll W' K H vs ds
  | [], _, h => by cases h; exact .nil
  | d :: ds, _, h => by
    cases h with
    | cons a t => exact .cons (Dn.to s a) (DnAll.to s t)
theorem DnKv.to (s : ∀ a, H a ≠ none → W'.M a → W.M a) : ∀ {es : List (PyData × PyData)} {kvs : List (Key × V)}, DnKv W K H kvs es → DnKv W' K H kvs es
  | [], _, h => by cases h; exact .nil
  | (_, d) :: es, _, h => by
    cases h with
    | cons a t => exact .cons (Dn.to s a) (DnKv.to s t)
end
theorem Dv.to (s : ∀ a, H a ≠ none → W'.M a → W.M a) {o : Option V} : ∀ {r : Sl}, Dv W K H o r → Dv W' K H o r
  | .dat _, ⟨v, e, h⟩ => ⟨v, e, h.to s⟩
  | .raw _, h => h
  | .any, h => h
  | .ml _ _ _, ⟨z, h⟩ => ⟨z, DnAll.to s h⟩
theorem Sd.to (s : ∀ a, H a ≠ none → W'.M a → W.M a) : ∀ {σ : L2.St} {env : List Sl}, Sd W K H σ env → Sd W' K H σ env
  | [], [], h => h
  | _ :: _, _ :: _, ⟨a, t⟩ => ⟨a.to s, Sd.to s t⟩
  | [], _ :: _, h => h.elim
  | _ :: _, [], h => h.elim
theorem plus_of {D : Addr} {o : HO} (h : H D = none) : ∀ a, H a ≠ none → (W.plus D o).M a → W.M a := fun a n m => m.elim id fun e => absurd (e ▸ h) n
theorem of_plus {D : Addr} {o : HO} : ∀ a, H a ≠ none → W.M a → (W.plus D o).M a := fun _ _ m => Or.inl m
theorem same_M {o o' : HO} {D : Addr} : ∀ a, H a ≠ none → (W.plus D o').M a → (W.plus D o).M a := fun _ _ m => m
end

/-! ## own defs -/
structure Own (P : Program) (w : World) (K : PySem.W.Frag) (mg : Str → Option Value) (base : Heap) (x : Str) (j : Nat) (ps : List Str) (sp : Sp) : Prop where
  ex : ∃ (f : Addr) (fd : FuncData), mg x = some (.ref f) ∧ PySem.W.keepIn K (.ref f) = true ∧ Binds K fd ps [] ∧ FnG P w K mg base j f fd ps sp
/-- a def that changes nothing: from data to data -/
def spF (K : PySem.W.Frag) (Fn : List PyData → PyData → Prop) : Sp := fun vs H Q _ => ∃ (W : Wd) (ds : List PyData) (r : PyData), W.I H ∧ DnAll W K H vs ds ∧ Fn ds r ∧ ∀ v H', Xt H H' → Dn W K H' v r → Q v H'
/-- .. from data to some data -/
def spN (K : PySem.W.Frag) (Rn : List PyData → PyData → Prop) (Pre : List PyData → Prop) : Sp := fun vs H Q _ => ∃ (W : Wd) (ds : List PyData), W.I H ∧ DnAll W K H vs ds ∧ Pre ds ∧ ∀ r v H', Rn ds r → Xt H H' → Dn W K H' v r → Q v H'
section
variable {ι : Type} {F : ι → Cx} {P : Program} {w : World} {K : PySem.W.Frag} {mg : Str → Option Value} {base : Heap} {N : List Str} {k : Nat} {sc : Scope} {W : Wd} {env : List Sl}
theorem ev_call (fm : Fam P w K mg base N k sc F) {x : Str} {j : Nat} {ps : List Str} {sp : Sp} {p pos : Pos} {e : Expr} {es : List Expr} {Ra : List Sl → Prop} {R : Sl → Prop} (o : Own P w K mg base x j ps sp) (hj : j ≤ k) (ha : EvA F W K (e :: es) env Ra)
    (hs : ∀ rs, Ra rs → ∀ (vs : List V) (H : Hp), W.I H → Sd W K H (vs.map some) rs → ∀ (Q : VK) (E : XK), (∀ v H' r, Wx W H H' → W.I H' → Dv W K H' (some v) r → R r → Q v H') → sp vs H Q E)
    (hg : glB sc x = true := by decide +kernel) (hdb : (x == ("__debug__" : Str)) = false := by decide) (st : ∀ i, starEach (e :: es) (F i).env = (false, eval e (F i).env) :: starEach es (F i).env := by intro _; rfl) (pl : ∀ i, (backTo pos (starEach es (F i).env)).any (·.1) = false := by intro _; rfl) :
    Ev F W K (.Call (.Name x p) (e :: es) [] pos) env R := by
  obtain ⟨f, fd, hm, hk, hb, G⟩ := o.ex
  intro σ H i sd Q q
  refine ⟨tCall sp [] E0 (WA F (e :: es)), fun z => ?_, ?_⟩
  · have GG : FnG (F z).prog (F z).w (F z).K (F z).mg (F z).base j f fd ps sp := by rw [fm.pr z, fm.wo z, fm.kk z, fm.mg z, fm.ba z]; exact G
    exact pe_callG GG (fm.gu z) ((fm.ro z).mono hj) (gl_of (fm.es z) hg) (by rw [fm.mg z]; exact hm) (by rw [fm.kk z]; exact hk) (by rw [fm.kk z]; exact hb) .nil (wa_pa z) E0 hdb (st z) (pl z)
  · refine ha σ H i sd _ fun vs H1 rs x1 i1 d1 h1 => ?_
    show sp (vs ++ []) H1 Q E0
    rw [List.append_nil]
    exact hs rs h1 vs H1 i1 d1 Q E0 fun v H' r x i' d h => q v H' r (x1.trans x) i' d h
theorem ev_pure (fm : Fam P w K mg base N k sc F) {x : Str} {j : Nat} {ps : List Str} {Fn : List PyData → PyData → Prop} {p pos : Pos} {e : Expr} {es : List Expr} {ds : List PyData} {r : PyData} (o : Own P w K mg base x j ps (spF K Fn)) (hj : j ≤ k) (ha : A1 F W K (e :: es) env ds) (hr : Fn ds r)
    (hg : glB sc x = true := by decide +kernel) (hdb : (x == ("__debug__" : Str)) = false := by decide) (st : ∀ i, starEach (e :: es) (F i).env = (false, eval e (F i).env) :: starEach es (F i).env := by intro _; rfl) (pl : ∀ i, (backTo pos (starEach es (F i).env)).any (·.1) = false := by intro _; rfl) :
    E1 F W K (.Call (.Name x p) (e :: es) [] pos) env (.dat r) :=
  ev_call fm o hj ha (fun rs h vs H i sd Q E q => by
    subst h
    exact ⟨W, ds, r, i, dn_of_sd sd, hr, fun v H' x dn => q v H' _ (x.wx W) (W.mono _ _ i x) dn.dv rfl⟩) hg hdb st pl
theorem ev_some (fm : Fam P w K mg base N k sc F) {x : Str} {j : Nat} {ps : List Str} {Rn : List PyData → PyData → Prop} {Pre : List PyData → Prop} {p pos : Pos} {e : Expr} {es : List Expr} {ds : List PyData} (o : Own P w K mg base x j ps (spN K Rn Pre)) (hj : j ≤ k) (ha : A1 F W K (e :: es) env ds) (hr : Pre ds)
    (hg : glB sc x = true := by decide +kernel) (hdb : (x == ("__debug__" : Str)) = false := by decide) (st : ∀ i, starEach (e :: es) (F i).env = (false, eval e (F i).env) :: starEach es (F i).env := by intro _; rfl) (pl : ∀ i, (backTo pos (starEach es (F i).env)).any (·.1) = false := by intro _; rfl) :
    Ev F W K (.Call (.Name x p) (e :: es) [] pos) env fun s => ∃ r, s = .dat r ∧ Rn ds r :=
  ev_call fm o hj ha (fun rs h vs H i sd Q E q => by
    subst h
    exact ⟨W, ds, i, dn_of_sd sd, hr, fun r v H' hrn x dn => q v H' _ (x.wx W) (W.mono _ _ i x) dn.dv ⟨r, rfl, hrn⟩⟩) hg hdb st pl
end

/-! ## a def by its body -/
abbrev DF (P : Program) (w : World) (K : PySem.W.Frag) (mg : Str → Option Value) (base : Heap) (N : List Str) (qual : Str) (sc : Scope) (f : Addr) (cdv : Value) (A : Around) (fr : List Env) (s : Shared) (H : Hp) (E : XK) : Unit → Cx :=
  fun _ => (cxOf CXn P w K mg base N qual sc f cdv A fr s H E).nox
def startE (N : List Str) (ds : List Sl) : List Sl := ds ++ List.replicate (N.length - ds.length) .any
theorem start_sd {W : Wd} {K : PySem.W.Frag} {H : Hp} {N : List Str} {vs : List V} {rs : List Sl} (h : Sd W K H (vs.map some) rs) : Sd W K H (L2.start N vs) (startE N rs) := by
  have app : ∀ {a b : L2.St} {c d : List Sl}, Sd W K H a c → Sd W K H b d → Sd W K H (a ++ b) (c ++ d) := by
    intro a b c d h1 h2
    induction a generalizing c with
    | nil =>
      cases c with
      | nil => exact h2
      | cons _ _ => exact h1.elim
    | cons x a ih =>
      cases c with
      | nil => exact h1.elim
      | cons y c => exact ⟨h1.1, ih h1.2⟩
  have len : ∀ {a : L2.St} {c : List Sl}, Sd W K H a c → a.length = c.length := by
    intro a c h1
    induction a generalizing c with
    | nil =>
      cases c with
      | nil => rfl
      | cons _ _ => exact h1.elim
    | cons x a ih =>
      cases c with
      | nil => exact h1.elim
      | cons y c => exact congrArg (· + 1) (ih h1.2)
  have l := len h
  rw [List.length_map] at l
  unfold L2.start startE
  rw [l]
  exact app h (Sd.nones _)
section
variable {P : Program} {w : World} {K : PySem.W.Frag} {mg : Str → Option Value} {base : Heap} {k : Nat} {x qual : Str} {st : Stmt} {f : Addr} {fd : FuncData} {N ps : List Str}
/-- the general form: slots that stand for rs, a world W, what comes -/
theorem fn_body {sp : Sp} (Fu : Fun K x qual st f fd) (S : FnScope N ps (defScope st)) (len : ∀ vs H Q E, sp vs H Q E → vs.length = ps.length)
    (body : ∀ (vs : List V) (H : Hp) (Q : VK) (E : XK), sp vs H Q E → ∃ (W : Wd) (rs : List Sl) (Po : Post), W.I H ∧ Sd W K H (vs.map some) rs ∧
      (∀ (cdv : Value) (A : Around) (fr : List Env) (s : Shared), Fam P w K mg base N k (defScope st) (DF P w K mg base N qual (defScope st) f cdv A fr s H E) → Bd (DF P w K mg base N qual (defScope st) f cdv A fr s H E) W K (defBody st) (startE N rs) Po) ∧
      (∀ env H', Wx W H H' → W.I H' → Po.nx env → Q .non H') ∧ (∀ v H' r, Wx W H H' → W.I H' → Dv W K H' (some v) r → Po.rt r → Q v H') ∧ (∀ e, ¬ Po.bk e) ∧ (∀ e, ¬ Po.ct e)) : FnG P w K mg base (k + 1) f fd ps sp := by
  obtain ⟨oc, od, kV, doc, pm, an, cdv, ct, osl, rfl, lk, hcd⟩ := Fu.ex
  refine fnG_of lk hcd S len fun A fr s H vs Q E g hr hsp => ?_
  obtain ⟨W, rs, Po, i, sd, hb, hn, ht, h3, h4⟩ := body vs H Q E hsp
  have fm : Fam P w K mg base N k (defScope st) (DF P w K mg base N qual (defScope st) f cdv A fr s H E) := ⟨fun _ => rfl, S.kind, fun _ => rfl, fun _ => rfl, fun _ => rfl, fun _ => rfl, fun _ => rfl, fun _ => rfl, S.nd, fun _ => rfl, fun _ => g, fun _ => hr⟩
  refine ⟨WS (DF P w K mg base N qual (defScope st) f cdv A fr s H E) (defBody st), PSs.nox (X := cxOf CXn P w K mg base N qual (defScope st) f cdv A fr s H E) (ws_ps (F := DF P w K mg base N qual (defScope st) f cdv A fr s H E) ()), ?_⟩
  exact hb cdv A fr s fm _ H _ i (start_sd sd) ⟨fun σ' H' e x i' s' h => hn e H' x i' h, fun v H' r x i' d h => ht v H' r x i' d h, fun σ' H' e x i' s' h => absurd h (h3 e), fun σ' H' e x i' s' h => absurd h (h4 e)⟩
/-- a def from data to data -/
theorem fn_pure {Fn : List PyData → PyData → Prop} (Fu : Fun K x qual st f fd) (S : FnScope N ps (defScope st)) (len : ∀ ds r, Fn ds r → ds.length = ps.length)
    (body : ∀ (cdv : Value) (A : Around) (fr : List Env) (s : Shared) (H : Hp) (E : XK) (W : Wd) (ds : List PyData) (r : PyData), Fam P w K mg base N k (defScope st) (DF P w K mg base N qual (defScope st) f cdv A fr s H E) → Fn ds r →
      Bd (DF P w K mg base N qual (defScope st) f cdv A fr s H E) W K (defBody st) (startE N (ds.map .dat)) { nx := fun _ => r = .none, rt := fun z => z = .dat r }) : FnG P w K mg base (k + 1) f fd ps (spF K Fn) := by
  refine fn_body Fu S (fun vs H Q E ⟨W, ds, r, _, dn, hr, _⟩ => by rw [dn.length]; exact len ds r hr) fun vs H Q E ⟨W, ds, r, i, dn, hr, q⟩ => ?_
  have same : ∀ a, H a ≠ none → (W.lock H).M a → W.M a := fun _ _ m => m
  refine ⟨W.lock H, ds.map .dat, _, ⟨i, fun _ _ => rfl⟩, sd_of_dn (dn.to same), fun cdv A fr s fm => body cdv A fr s H E (W.lock H) ds r fm hr, fun env H' xx ii e => ?_, fun v H' r' xx ii dv e => ?_, fun _ z => z, fun _ z => z⟩
  · refine q .non H' (lock_xt xx ii) ?_
    rw [show r = .none from e]
    exact .non
  · rw [show r' = .dat r from e] at dv
    obtain ⟨u, z, d⟩ := dv
    cases z
    exact q v H' (lock_xt xx ii) (Dn.to (W := W.lock H) (W' := W) (fun _ _ m => m) d)
theorem fn_some {Rn : List PyData → PyData → Prop} {Pre : List PyData → Prop} (Fu : Fun K x qual st f fd) (S : FnScope N ps (defScope st)) (len : ∀ ds, Pre ds → ds.length = ps.length)
    (body : ∀ (cdv : Value) (A : Around) (fr : List Env) (s : Shared) (H : Hp) (E : XK) (W : Wd) (ds : List PyData), Fam P w K mg base N k (defScope st) (DF P w K mg base N qual (defScope st) f cdv A fr s H E) → Pre ds →
      Bd (DF P w K mg base N qual (defScope st) f cdv A fr s H E) W K (defBody st) (startE N (ds.map .dat)) { nx := fun _ => Rn ds .none, rt := fun z => ∃ r, z = .dat r ∧ Rn ds r }) : FnG P w K mg base (k + 1) f fd ps (spN K Rn Pre) := by
  refine fn_body Fu S (fun vs H Q E ⟨W, ds, _, dn, hr, _⟩ => by rw [dn.length]; exact len ds hr) fun vs H Q E ⟨W, ds, i, dn, hr, q⟩ => ?_
  refine ⟨W.lock H, ds.map .dat, _, ⟨i, fun _ _ => rfl⟩, sd_of_dn (DnAll.to (W := W) (W' := W.lock H) (fun _ _ m => m) dn), fun cdv A fr s fm => body cdv A fr s H E (W.lock H) ds fm hr, fun env H' xx ii e => ?_, fun v H' r' xx ii dv e => ?_, fun _ z => z, fun _ z => z⟩
  · exact q .none .non H' e (lock_xt xx ii) .non
  · obtain ⟨r, rfl, h⟩ := e
    obtain ⟨u, z, d⟩ := dv
    cases z
    exact q r v H' h (lock_xt xx ii) (Dn.to (W := W.lock H) (W' := W) (fun _ _ m => m) d)
theorem own_of {sp : Sp} {j : Nat} (G : FnG P w K mg base j f fd ps sp) (hm : mg x = some (.ref f)) (Fu : Fun K x qual st f fd)
    (h : ∀ (kV doc pm : Value) (an : Option Addr) (cdv ct : Value) (us : List Value), us.length = ps.length → bindArgs (PySem.W.fnOf x qual (defArgs st) (defBody st) (defScope st) .none kV doc pm an cdv ct) ⟨us, []⟩ = pure (ps.zip us)) : Own P w K mg base x j ps sp :=
  ⟨f, fd, hm, Fu.kp, Fu.binds h, G⟩
end
end Cr

set_option Elab.async false
set_option linter.all false
set_option maxRecDepth 100000
set_option maxHeartbeats 4000000
namespace Cr
open PySem PySem.Spec PyProof.Rows L2

/-! ## comprehensions over a list of data, one name -/
abbrev FB {ι : Type} (F : ι → Cx) (scope : Scope) : (ι × Shared × Hp × Addr × List (Str × Addr) × List Addr) → Cx :=
  fun z => (F z.1).blk z.2.1 z.2.2.1 scope (compEnvC scope z.2.2.2.2.1 z.2.2.2.1 (F z.1).env) z.2.2.2.2.2
section
variable {ι : Type} {F : ι → Cx} {P : Program} {w : World} {K : PySem.W.Frag} {mg : Str → Option Value} {base : Heap} {N : List Str} {k : Nat} {sc : Scope} {W : Wd} {env : List Sl}
theorem Fam.blk (fm : Fam P w K mg base N k sc F) (scope : Scope) (hk : scope.kind = .function) : Fam P w K mg base N k (relS scope sc) (FB F scope) :=
  ⟨fun z => by rw [← fm.es z.1] <;> rfl, hk, fun z => fm.pr z.1, fun z => fm.wo z.1, fun z => fm.kk z.1, fun z => fm.mg z.1, fun z => fm.ba z.1, fun z => fm.nn z.1, fm.nd, fun z => fm.ca z.1, fun z => fm.gu z.1, fun z => fm.ro z.1⟩
def WTs (F : ι → Cx) (ifs : List Expr) : TT := fun σ H Q => ∃ t, (∀ i, PTs (F i) ifs t) ∧ t σ H Q
theorem wts_pts {ifs : List Expr} (i : ι) : PTs (F i) ifs (WTs F ifs) := ⟨fun pins s σ H Q I h => by
  obtain ⟨t, ht, q⟩ := h
  exact (ht i).run pins s σ H Q I q⟩
/-- the tests of a clause, with one answer -/
def EvIf (F : ι → Cx) (W : Wd) (K : PySem.W.Frag) (ifs : List Expr) (env : List Sl) (b : Bool) : Prop :=
  ∀ (σ : L2.St) (H : Hp), W.I H → Sd W K H σ env → ∀ Q : Bool → Hp → Prop, (∀ H', Wx W H H' → W.I H' → Q b H') → WTs F ifs σ H Q
theorem if_nil : EvIf F W K [] env true := fun σ H i sd Q q => ⟨tYes, fun _ => pts_nil, q H (Wx.refl W H) i⟩
theorem if_one {c : Expr} {b : Bool} (h : T1 F W K c env b) : EvIf F W K [c] env b := fun σ H i sd Q q => ⟨WT F c, fun z => pts_one (wt_pt z), h σ H i sd Q fun c' H' x i' e => by subst e; exact q H' x i'⟩
theorem wipe_set {σ : L2.St} {v : V} (j : Nat) : L2.wipe ((L2.wipe σ [j]).set j (some v)) [j] = L2.wipe σ [j] := by
  show ((σ.set j none).set j (some v)).set j none = σ.set j none
  rw [List.set_set, List.set_set]
theorem paired_app {α β : Type} {R : α → β → Prop} : ∀ {a : List α} {b : List β} {c : List α} {d : List β}, Paired R a b → Paired R c d → Paired R (a ++ c) (b ++ d)
  | _, _, _, _, .nil, h => h
  | _, _, _, _, .cons r t, h => .cons r (paired_app t h)
/-- the turns of a comprehension: which are kept (f), what they give (R) -/
theorem lc_turns {elt : Expr} {ifs : List Expr} {scope : Scope} {j : Nat} {ds : List PyData} {xs : List V} {a D : Addr} {H1 : Hp} {σ : L2.St} {f : Nat → Bool} {R : Nat → PyData → Prop} {Q : VK} (i1 : W.I H1) (sd : Sd W K H1 σ env) (la : LA W K H1 a xs) (da : DnAll W K H1 xs ds) (hD : H1 D = none) (hz : ds.length ≤ sizeLine)
    (ht : ∀ i d D acc, ds[i]? = some d → ¬ W.M D → EvIf (FB F scope) (W.plus D (.lst acc)) K ifs ((env.set j .any).set j (.dat d)) (f i))
    (he : ∀ i d D acc, ds[i]? = some d → f i = true → ¬ W.M D → Ev (FB F scope) (W.plus D (.lst acc)) K elt ((env.set j .any).set j (.dat d)) fun s => ∃ e, s = .dat e ∧ R i e)
    (q : ∀ H' es, Wx W H1 H' → W.I H' → Dn W K H' (.ref D) (.list es) → Paired (fun i e => R i e) ((List.range ds.length).filter f) es → Q (.ref D) H') :
    ∃ Wl : Nat → Nat → Hp → Prop, (∃ m, Wl 0 m (upd H1 D (.lst []))) ∧ ∀ i m H, Wl i m H →
      ((Itl K a).stop i H ∧ Q (.ref D) H) ∨ ((Itl K a).go i H ∧ ∃ Nx : Hp → Prop, (∀ H', Nx H' → ∃ m', m' < m ∧ Wl (i + 1) m' H') ∧ ∀ x H', (Itl K a).yld i H x H' → gName j x (L2.wipe σ [j]) H' fun σ2 H2 => L2.wipe σ2 [j] = L2.wipe σ [j] ∧ WTs (FB F scope) ifs σ2 H2 fun b H3 =>
        if b = true then WE (FB F scope) elt σ2 H3 fun y H4 => ∃ acc, H4 D = some (.lst acc) ∧ acc.length < sizeLine ∧ Nx (upd H4 D (.lst (acc ++ [y]))) else Nx H3) := by
  have nD : ¬ W.M D := fun m => W.has H1 D i1 m hD
  refine lc_list (K := K) (a := a) (xs := xs) (fun i H' => ∃ acc es, (W.plus D (.lst acc)).I H' ∧ Wx (W.plus D (.lst acc)) H1 H' ∧ DnAll (W.plus D (.lst acc)) K H' acc es ∧ Paired (fun i e => R i e) ((List.range i).filter f) es) ?_ ?_ ?_ ?_
  · exact ⟨[], [], ⟨W.mono _ _ i1 (Xt.new hD), upd_same⟩, fun p o _ h => Xt.new hD p o h, .nil, .nil⟩
  · intro i H' _ ⟨acc, es, _, x, _⟩
    refine SqL.of (x a _ (fun m => ?_) la.2)
    exact m.elim la.1 fun e => ne_of_none la.2 hD e
  · intro i x H' hx ⟨acc, es, ii, xx, dn, pr⟩
    obtain ⟨d, hd, dx⟩ := da.getV hx
    have to1 : ∀ b, H1 b ≠ none → (W.plus D (.lst acc)).M b → W.M b := plus_of hD
    have sd' : Sd (W.plus D (.lst acc)) K H' ((L2.wipe σ [j]).set j (some x)) ((env.set j .any).set j (.dat d)) := Sd.set ((dx.to to1).mono xx).dv j (((sd.to to1).wipe [j]).mono xx)
    refine ⟨wipe_set j, ?_⟩
    refine ht i d D acc hd nD _ H' ii sd' _ fun H3 x3 i3 => ?_
    have lt : acc.length ≤ i := by
      have l1 := dn.length
      have l2 := Paired.length pr
      have l3 := List.length_filter_le f (List.range i)
      rw [List.length_range] at l3
      omega
    have il : i < ds.length := (List.getElem?_eq_some_iff.mp hd).1
    cases hf : f i with
    | true =>
      refine he i d D acc hd hf nD _ H3 i3 (sd'.mono x3) _ fun y H4 r x4 i4 d4 h4 => ?_
      obtain ⟨e, rfl, hR⟩ := h4
      obtain ⟨u, z, dy⟩ := d4
      cases z
      have up : Wx (W.plus D (.lst acc)) H4 (upd H4 D (.lst (acc ++ [y]))) := fun p o n h => by
        rw [upd_ne fun z => n (Or.inr z)]
        exact h
      refine ⟨acc, i4.2, by omega, acc ++ [y], es ++ [e], ⟨W.loc _ _ i4.1 fun b m => upd_ne fun z => nD (z ▸ m), upd_same⟩, ?_, ?_, ?_⟩
      · intro p o n h
        exact up p o n (x4 p o n (x3 p o n (xx p o n h)))
      · refine DnAll.to (W := W.plus D (.lst acc)) (W' := W.plus D (.lst (acc ++ [y]))) (fun _ _ m => m) (DnAll.mono up ?_)
        exact ((dn.mono x3).mono x4).append (.cons dy .nil)
      · rw [List.range_succ, List.filter_append, List.filter_cons, if_pos hf]
        exact paired_app pr (.cons hR .nil)
    | false =>
      refine ⟨acc, es, i3, fun p o n h => x3 p o n (xx p o n h), dn.mono x3, ?_⟩
      rw [List.range_succ, List.filter_append, List.filter_cons, if_neg (by rw [hf]; exact Bool.false_ne_true)]
      show Paired _ (_ ++ []) es
      rw [List.append_nil]
      exact pr
  · intro H' ⟨acc, es, ii, xx, dn, pr⟩
    rw [da.length] at pr
    refine q H' es (fun p o n h => xx p o (fun m => m.elim n fun z => ?_) h) ii.1 ?_ pr
    · rw [z, hD] at h
      exact nomatch h
    · exact .lst ⟨nD, ii.2⟩ (DnAll.to (W := W.plus D (.lst acc)) (W' := W) (fun _ _ m => Or.inl m) dn)

/-- what a comprehension's rules ask besides -/
def lcB (N : List Str) (sc scope : Scope) (x : Str) (j : Nat) : Bool := blkC N sc scope [(x, j)] && locB (relS scope sc) x && (scope.names.lookup x == some .cell || (relS scope sc).names.lookup x == some .local)
theorem lc_gName (fm : Fam P w K mg base N k sc F) {x : Str} {j : Nat} {scope : Scope} {px : Pos} (o : lcB N sc scope x j = true) (hN : N[j]? = some x) (z : ι) (s : Shared) (H : Hp) (C : Addr) (cl : List (Str × Addr)) (fp : List Addr) : PG ((F z).blk s H scope (compEnvC scope cl C (F z).env) fp) (.Name x px) (gName j) := by
  unfold lcB at o
  rw [Bool.and_eq_true, Bool.and_eq_true, Bool.or_eq_true] at o
  obtain ⟨⟨_, o2⟩, o3⟩ := o
  have es : (relabel scope (F z).env) = relS scope sc := by rw [← fm.es z] <;> rfl
  refine pg_name (by show (F z).N.Nodup; rw [fm.nn z]; exact fm.nd) (by show (F z).N[j]? = _; rw [fm.nn z]; exact hN) (loc_of es o2) ?_
  rcases o3 with o3 | o3
  · exact Or.inl o3
  · refine Or.inr ?_
    show (relabel scope (F z).env).names.lookup x = _
    rw [es]
    exact beq_iff_eq.mp o3
theorem lc_ok (fm : Fam P w K mg base N k sc F) {x : Str} {j : Nat} {scope : Scope} (o : lcB N sc scope x j = true) (z : ι) : BlkOk (F z).N (F z).env.scope scope [(x, j)] := by
  unfold lcB at o
  rw [Bool.and_eq_true, Bool.and_eq_true] at o
  rw [fm.nn z, fm.es z]
  exact blkOk_by o.1.1
theorem lc_kind {x : Str} {j : Nat} {scope : Scope} (o : lcB N sc scope x j = true) : scope.kind = .function := by
  unfold lcB at o
  rw [Bool.and_eq_true, Bool.and_eq_true] at o
  exact (blkOk_by o.1.1).kind
theorem paired3 {R : Nat → PyData → Prop} {es : List PyData} (h : Paired (fun i e => R i e) ((List.range 3).filter fun _ => true) es) : ∃ a b c, es = [a, b, c] ∧ R 0 a ∧ R 1 b ∧ R 2 c := by
  have h' : Paired (fun i e => R i e) [0, 1, 2] es := h
  match es, h' with
  | [a, b, c], .cons x (.cons y (.cons z .nil)) => exact ⟨a, b, c, rfl, x, y, z⟩
/-- the reading of [elt for x in l if ..], l a list of data -/
theorem lc_readL {elt iter : Expr} {ifs : List Expr} {scope : Scope} {j : Nat} {ds : List PyData} {f : Nat → Bool} {R : Nat → PyData → Prop} (hi : E1 F W K iter env (.dat (.list ds))) (hz : ds.length ≤ sizeLine)
    (ht : ∀ i d D acc, ds[i]? = some d → ¬ W.M D → EvIf (FB F scope) (W.plus D (.lst acc)) K ifs ((env.set j .any).set j (.dat d)) (f i))
    (he : ∀ i d D acc, ds[i]? = some d → f i = true → ¬ W.M D → Ev (FB F scope) (W.plus D (.lst acc)) K elt ((env.set j .any).set j (.dat d)) fun s => ∃ e, s = .dat e ∧ R i e)
    (σ : L2.St) (H : Hp) (ii : W.I H) (sd : Sd W K H σ env) (Q : VK) (q : ∀ v H' es, Wx W H H' → W.I H' → Dn W K H' v (.list es) → Paired (fun i e => R i e) ((List.range ds.length).filter f) es → Q v H') :
    tLc (iList K (WE F iter)) (gName j) (WTs (FB F scope) ifs) (WE (FB F scope) elt) [j] σ H Q := by
  refine hi σ H ii sd _ fun v H1 r x1 i1 d1 h1 => ?_
  subst h1
  obtain ⟨u, z, n1⟩ := d1
  cases z
  cases n1 with
  | lst la da =>
    refine ⟨_, rfl, ⟨_, la.sq⟩, fun D hD => ?_⟩
    exact lc_turns i1 (sd.mono x1) la da hD hz ht he fun H' es x' i' dn pr => q _ H' es (x1.trans x') i' dn pr
theorem ev_lc (fm : Fam P w K mg base N k sc F) {x : Str} {px pos : Pos} {elt iter : Expr} {ifs : List Expr} {scope : Scope} {ds : List PyData} {f : Nat → Bool} {R : Nat → PyData → Prop} (j : Nat) (hN : N[j]? = some x) (o : lcB N sc scope x j = true) (hi : E1 F W K iter env (.dat (.list ds)))
    (ht : ∀ i d D acc, ds[i]? = some d → ¬ W.M D → Fam P w K mg base N k (relS scope sc) (FB F scope) → EvIf (FB F scope) (W.plus D (.lst acc)) K ifs ((env.set j .any).set j (.dat d)) (f i))
    (he : ∀ i d D acc, ds[i]? = some d → f i = true → ¬ W.M D → Fam P w K mg base N k (relS scope sc) (FB F scope) → Ev (FB F scope) (W.plus D (.lst acc)) K elt ((env.set j .any).set j (.dat d)) fun s => ∃ e, s = .dat e ∧ R i e)
    (hz : ds.length ≤ sizeLine) (hf : ∀ i x, foldedSetIterable iter (F i).env x = pure x := by intro _ _; rfl) :
    Ev F W K (.ListComp elt [⟨.Name x px, iter, ifs, 0⟩] scope pos) env fun s => ∃ es, s = .dat (.list es) ∧ Paired (fun i e => R i e) ((List.range ds.length).filter f) es := by
  intro σ H ii sd Q q
  refine ⟨_, fun z => ?_, lc_readL hi hz (fun i d D acc a b => ht i d D acc a b (fm.blk scope (lc_kind o))) (fun i d D acc a b c => he i d D acc a b c (fm.blk scope (lc_kind o))) σ H ii sd Q fun v H' es x' i' dn pr => q v H' _ x' i' dn.dv ⟨es, rfl, pr⟩⟩
  have h1 := pi_list (tg := .Name x px) (we_pe (F := F) (e := iter) z)
  rw [fm.kk z] at h1
  exact pe_lc (own := [(x, j)]) (fm.ca z) (by rw [fm.nn z]; exact fm.nd) h1 (lc_ok fm o z) (fun s H C cl fp => lc_gName fm o hN z s H C cl fp) (fun s H C cl fp => wts_pts (F := FB F scope) (z, s, H, C, cl, fp)) (fun s H C cl fp => we_pe (F := FB F scope) (z, s, H, C, cl, fp)) (hf z)
/-- y = [elt for x in l if ..] -/
theorem bd_lc (fm : Fam P w K mg base N k sc F) {x y : Str} {px py pos spos : Pos} {elt iter : Expr} {ifs : List Expr} {scope : Scope} {ds : List PyData} {f : Nat → Bool} {R : Nat → PyData → Prop} {rest : List Stmt} {Po : Post} (n j : Nat) (hY : N[n]? = some y) (hN : N[j]? = some x) (o : lcB N sc scope x j = true) (hi : E1 F W K iter env (.dat (.list ds)))
    (ht : ∀ i d D acc, ds[i]? = some d → ¬ W.M D → Fam P w K mg base N k (relS scope sc) (FB F scope) → EvIf (FB F scope) (W.plus D (.lst acc)) K ifs ((env.set j .any).set j (.dat d)) (f i))
    (he : ∀ i d D acc, ds[i]? = some d → f i = true → ¬ W.M D → Fam P w K mg base N k (relS scope sc) (FB F scope) → Ev (FB F scope) (W.plus D (.lst acc)) K elt ((env.set j .any).set j (.dat d)) fun s => ∃ e, s = .dat e ∧ R i e)
    (hz : ds.length ≤ sizeLine) (hr : ∀ es, Paired (fun i e => R i e) ((List.range ds.length).filter f) es → Bd F W K rest (env.set n (.dat (.list es))) Po)
    (hl : lclB sc y = true := by decide +kernel) (sl : (py.line == pos.line) = true := by rfl) (sa : (scope.names.any fun (n, k) => n == y && (k == .local || k == .cell)) = false := by decide +kernel)
    (hf : ∀ i x, foldedSetIterable iter (F i).env x = pure x := by intro _ _; rfl) : Bd F W K (.Assign [.Name y py] (.ListComp elt [⟨.Name x px, iter, ifs, 0⟩] scope pos) spos :: rest) env Po := by
  intro σ H D ii sd g
  refine ⟨tSeq (tAsg (tLc (iList K (WE F iter)) (gName j) (WTs (FB F scope) ifs) (WE (FB F scope) elt) [j]) (gName n)) (WS F rest), fun z => ?_, lc_readL hi hz (fun i d D acc a b => ht i d D acc a b (fm.blk scope (lc_kind o))) (fun i d D acc a b c => he i d D acc a b c (fm.blk scope (lc_kind o))) σ H ii sd (fun v H1 => gName n v σ H1 (WS F rest D)) fun v H' es x' i' dn pr => hr es pr _ _ _ i' (Sd.set dn.dv n (sd.mono x')) (g.mono x')⟩
  have h1 := pi_list (tg := .Name x px) (we_pe (F := F) (e := iter) z)
  rw [fm.kk z] at h1
  exact pss_cons (ps_setLc (own := [(x, j)]) (fm.ca z) (by rw [fm.nn z]; exact fm.nd) (by rw [fm.nn z]; exact hY) (lcl_of (fm.es z) hl) (sw_true (by rw [fm.es z]; exact fm.kd) (lcl_of (fm.es z) hl) sl sa) h1 (lc_ok fm o z) (fun s H C cl fp => lc_gName fm o hN z s H C cl fp) (fun s H C cl fp => wts_pts (F := FB F scope) (z, s, H, C, cl, fp)) (fun s H C cl fp => we_pe (F := FB F scope) (z, s, H, C, cl, fp)) (hf z)) (ws_ps z)
end

/-! ## the pot that the laws draw from -/
def Pot (p c : Addr) (ns : List Int) (H : Hp) : Prop := p ≠ c ∧ (∃ i x y : Int, H p = some (.lst [.ref c, .int i, .int x, .int y])) ∧ H c = some (.lst (ns.map V.int))
def potW (p c : Addr) (ns : List Int) : Wd where
  M a := a = p ∨ a = c
  I := Pot p c ns
  has H a i m := by
    obtain ⟨_, ⟨i, x, y, h⟩, h'⟩ := i
    rcases m with rfl | rfl
    · rw [h]; exact fun z => nomatch z
    · rw [h']; exact fun z => nomatch z
  loc H H' i h := by
    obtain ⟨n, ⟨i, x, y, e⟩, e'⟩ := i
    exact ⟨n, ⟨i, x, y, (h p (Or.inl rfl)).trans e⟩, (h c (Or.inr rfl)).trans e'⟩
/-- a world in which the pot at p, its numbers at c, may be drawn from -/
structure Draws (W : Wd) (p c : Addr) (ns : List Int) : Prop where
  mp : W.M p
  mc : W.M c
  pot : ∀ H, W.I H → Pot p c ns H
  step : ∀ H H', W.I H → (∀ a, W.M a → a ≠ p → H' a = H a) → Pot p c ns H' → W.I H'
theorem draws_pot {p c : Addr} {ns : List Int} : Draws (potW p c ns) p c ns := ⟨Or.inl rfl, Or.inr rfl, fun _ i => i, fun _ _ _ _ h => h⟩
theorem Draws.plus {W : Wd} {p c D : Addr} {ns : List Int} {o : HO} (d : Draws W p c ns) (h : ¬ W.M D) : Draws (W.plus D o) p c ns :=
  ⟨Or.inl d.mp, Or.inl d.mc, fun H i => d.pot H i.1, fun H H' i x q => ⟨d.step H H' i.1 (fun a m => x a (Or.inl m)) q, (x D (Or.inr rfl) fun e => h (e ▸ d.mp)).trans i.2⟩⟩
/-- a def that draws: its first argument is the pot -/
def spD (K : PySem.W.Frag) (Pre : List PyData → Prop) (Rn : List PyData → PyData → Prop) : Sp := fun vs H Q _ => ∃ (W : Wd) (p c : Addr) (ns : List Int) (us : List V) (ds : List PyData), vs = .ref p :: us ∧ Draws W p c ns ∧ W.I H ∧ DnAll W K H us ds ∧ Pre ds ∧
  ∀ r v H', Rn ds r → (∀ a o, a ≠ p → H a = some o → H' a = some o) → W.I H' → Dn W K H' v r → Q v H'
section
variable {ι : Type} {F : ι → Cx} {P : Program} {w : World} {K : PySem.W.Frag} {mg : Str → Option Value} {base : Heap} {N : List Str} {k : Nat} {sc : Scope} {W : Wd} {env : List Sl}
theorem ev_draw (fm : Fam P w K mg base N k sc F) {x : Str} {j : Nat} {ps : List Str} {Pre : List PyData → Prop} {Rn : List PyData → PyData → Prop} {q pos : Pos} {e : Expr} {es : List Expr} {ds : List PyData} {p c : Addr} {ns : List Int} (dw : Draws W p c ns) (o : Own P w K mg base x j ps (spD K Pre Rn)) (hj : j ≤ k)
    (ha : EvA F W K (e :: es) env fun rs => rs = .raw (.ref p) :: ds.map .dat) (hr : Pre ds)
    (hg : glB sc x = true := by decide +kernel) (hdb : (x == ("__debug__" : Str)) = false := by decide) (st : ∀ i, starEach (e :: es) (F i).env = (false, eval e (F i).env) :: starEach es (F i).env := by intro _; rfl) (pl : ∀ i, (backTo pos (starEach es (F i).env)).any (·.1) = false := by intro _; rfl) :
    Ev F W K (.Call (.Name x q) (e :: es) [] pos) env fun s => ∃ r, s = .dat r ∧ Rn ds r :=
  ev_call fm o hj ha (fun rs h vs H i sd Q E q => by
    subst h
    match vs, sd with
    | v :: us, ⟨hv, sd⟩ =>
      cases (show some v = some (V.ref p) from hv)
      exact ⟨W, p, c, ns, us, ds, rfl, dw, i, dn_of_sd sd, hr, fun r v H' hrn x i' dn => q v H' _ (fun a o n h => x a o (fun z => n (z ▸ dw.mp)) h) i' dn.dv ⟨r, rfl, hrn⟩⟩) hg hdb st pl
/-- a def that draws, by its body -/
theorem fn_draw {x qual : Str} {st : Stmt} {f : Addr} {fd : FuncData} {ps : List Str} {Pre : List PyData → Prop} {Rn : List PyData → PyData → Prop} (Fu : Fun K x qual st f fd) (S : FnScope N ps (defScope st)) (len : ∀ ds, Pre ds → ds.length + 1 = ps.length)
    (body : ∀ (cdv : Value) (A : Around) (fr : List Env) (s : Shared) (H : Hp) (E : XK) (W : Wd) (p c : Addr) (ns : List Int) (ds : List PyData), Fam P w K mg base N k (defScope st) (DF P w K mg base N qual (defScope st) f cdv A fr s H E) → Draws W p c ns → Pre ds →
      Bd (DF P w K mg base N qual (defScope st) f cdv A fr s H E) W K (defBody st) (startE N (.raw (.ref p) :: ds.map .dat)) { nx := fun _ => Rn ds .none, rt := fun z => ∃ r, z = .dat r ∧ Rn ds r }) : FnG P w K mg base (k + 1) f fd ps (spD K Pre Rn) := by
  refine fn_body Fu S (fun vs H Q E ⟨W, p, c, ns, us, ds, e, _, _, dn, hr, _⟩ => by rw [e, List.length_cons, dn.length]; exact len ds hr) fun vs H Q E ⟨W, p, c, ns, us, ds, e, dw, i, dn, hr, q⟩ => ?_
  subst e
  -- what may change besides the pot stands still
  let W1 : Wd := ⟨W.M, fun H' => W.I H' ∧ ∀ a, W.M a → a ≠ p → H' a = H a, fun H' a i m => W.has H' a i.1 m, fun H1 H2 i x => ⟨W.loc H1 H2 i.1 x, fun a m n => (x a m).trans (i.2 a m n)⟩⟩
  have d1 : Draws W1 p c ns := ⟨dw.mp, dw.mc, fun H i => dw.pot H i.1, fun H1 H2 i x pq => ⟨dw.step H1 H2 i.1 x pq, fun a m n => (x a m n).trans (i.2 a m n)⟩⟩
  have keep : ∀ H', Wx W1 H H' → W1.I H' → ∀ a o, a ≠ p → H a = some o → H' a = some o := fun H' x i' a o n h => by
    by_cases m : W.M a
    · rw [i'.2 a m n]; exact h
    · exact x a o m h
  refine ⟨W1, .raw (.ref p) :: ds.map .dat, _, ⟨i, fun _ _ _ => rfl⟩, ⟨rfl, sd_of_dn (DnAll.to (W := W) (W' := W1) (fun _ _ m => m) dn)⟩, fun cdv A fr s fm => body cdv A fr s H E W1 p c ns ds fm d1 hr, fun env H' xx ii e => ?_, fun v H' r' xx ii dv e => ?_, fun _ z => z, fun _ z => z⟩
  · exact q .none .non H' e (keep H' xx ii) ii.1 .non
  · obtain ⟨r, rfl, h⟩ := e
    obtain ⟨u, z, d⟩ := dv
    cases z
    exact q r v H' h (keep H' xx ii) ii.1 (Dn.to (W := W1) (W' := W) (fun _ _ m => m) d)
end
end Cr

set_option Elab.async false
set_option linter.all false
set_option maxRecDepth 100000
set_option maxHeartbeats 4000000
namespace Cr
open PySem PySem.Spec PyProof.Rows L2

/-! ## data that == and repr take -/
structure Nice (d : PyData) (n : Nat) : Prop where
  lay : d.canLay0 = true
  nd : noDict d = true
  dp : d.depth ≤ n
structure NiceAll (ds : List PyData) (n : Nat) : Prop where
  lay : PyData.canLayAll0 ds = true
  nd : noDictAll ds = true
  dp : PyData.depthAll ds ≤ n
theorem Nice.none {n : Nat} : Nice .none n := ⟨by simp only [PyData.canLay0], by simp only [noDict], by simp only [PyData.depth]; omega⟩
theorem Nice.bool {b : Bool} {n : Nat} : Nice (.bool b) n := ⟨by simp only [PyData.canLay0], by simp only [noDict], by simp only [PyData.depth]; omega⟩
theorem Nice.int {i : Int} {n : Nat} : Nice (.int i) n := ⟨by simp only [PyData.canLay0], by simp only [noDict], by simp only [PyData.depth]; omega⟩
theorem Nice.str {x : Str} {n : Nat} (h : PySem.PyData.strOk x = true) : Nice (.str x) n := ⟨by simp only [PyData.canLay0]; exact h, by simp only [noDict], by simp only [PyData.depth]; omega⟩
theorem NiceAll.nil {n : Nat} : NiceAll [] n := ⟨by simp only [PyData.canLayAll0], by simp only [noDictAll], by simp only [PyData.depthAll]; omega⟩
theorem NiceAll.cons {d : PyData} {ds : List PyData} {n : Nat} (h : Nice d n) (t : NiceAll ds n) : NiceAll (d :: ds) n :=
  ⟨by simp only [PyData.canLayAll0, h.lay, t.lay, Bool.and_self], by simp only [noDictAll, h.nd, t.nd, Bool.and_self], by simp only [PyData.depthAll]; exact Nat.max_le.mpr ⟨h.dp, t.dp⟩⟩
theorem Nice.list {ds : List PyData} {n : Nat} (h : NiceAll ds n) : Nice (.list ds) (n + 1) := ⟨by simp only [PyData.canLay0]; exact h.lay, by simp only [noDict]; exact h.nd, by simp only [PyData.depth]; exact Nat.succ_le_succ h.dp⟩
theorem Nice.tuple {ds : List PyData} {n : Nat} (h : NiceAll ds n) : Nice (.tuple ds) (n + 1) := ⟨by simp only [PyData.canLay0]; exact h.lay, by simp only [noDict]; exact h.nd, by simp only [PyData.depth]; exact Nat.succ_le_succ h.dp⟩
theorem NiceAll.of {n : Nat} : ∀ {ds : List PyData}, (∀ d ∈ ds, Nice d n) → NiceAll ds n
  | [], _ => .nil
  | d :: ds, h => .cons (h d List.mem_cons_self) (NiceAll.of fun e m => h e (List.mem_cons_of_mem _ m))
theorem Nice.up {d : PyData} {n m : Nat} (h : Nice d n) (l : n ≤ m) : Nice d m := ⟨h.lay, h.nd, Nat.le_trans h.dp l⟩
theorem Nice.shaped {d : PyData} {n : Nat} (h : Nice d n) (l : n ≤ 64 := by decide) : SeqAt.shaped d = true := by
  unfold SeqAt.shaped
  rw [h.lay, decide_eq_true (Nat.le_trans h.dp l)] <;> rfl

section
variable {ι : Type} {F : ι → Cx} {P : Program} {w : World} {K : PySem.W.Frag} {mg : Str → Option Value} {base : Heap} {N : List Str} {k : Nat} {sc : Scope} {W : Wd} {env : List Sl}
theorem n_eq (fm : Fam P w K mg base N k sc F) {x y : PyData} (hx : Nice x 20) (hy : Nice y 20) : B1 F W K (compareOp .Eq) x y (.bool (PyData.eqv x y)) := b_eq fm hx.shaped hy.shaped hx.nd hy.nd
theorem n_ne (fm : Fam P w K mg base N k sc F) {x y : PyData} (hx : Nice x 20) (hy : Nice y 20) : B1 F W K (compareOp .NotEq) x y (.bool (!PyData.eqv x y)) := b_ne fm hx.shaped hy.shaped hx.nd hy.nd
theorem sc_cmp {f : Value → Value → Sem Value} {g : V → V → Bool} {x y : PyData} {vx vy : V} {c : Bool} (h : ∀ z, OpR (F z) f fun x y H Q => scal x y = true ∧ Q (.bl (g x y)) H) (dx : ∀ H v, Dn W K H v x → v = vx) (dy : ∀ H v, Dn W K H v y → v = vy) (hs : scal vx vy = true) (hg : g vx vy = c) : B1 F W K f x y (.bool c) := by
  intro H ux uy ii nx ny Q q
  rw [dx H ux nx, dy H uy ny]
  exact ⟨_, h, hs, by rw [hg]; exact q _ H _ (Wx.refl W H) ii (Dn.dv (.bl _)) rfl⟩
theorem d_int {H : Hp} {v : V} {i : Int} (h : Dn W K H v (.int i)) : v = .int i := by cases h; rfl
theorem d_str {H : Hp} {v : V} {i : Str} (h : Dn W K H v (.str i)) : v = .str i := by cases h; rfl
theorem d_non {H : Hp} {v : V} (h : Dn W K H v .none) : v = .non := by cases h; rfl
theorem d_bl {H : Hp} {v : V} {b : Bool} (h : Dn W K H v (.bool b)) : v = .bl b := by cases h; rfl
theorem b_eqI {i j : Int} : B1 F W K (compareOp .Eq) (.int i) (.int j) (.bool (decide (i = j))) := sc_cmp (fun _ => op_eq) (fun _ _ => d_int) (fun _ _ => d_int) rfl (by rw [dec_int, Bool.beq_eq_decide_eq])
theorem b_eqS {i j : Str} : B1 F W K (compareOp .Eq) (.str i) (.str j) (.bool (decide (i = j))) := sc_cmp (fun _ => op_eq) (fun _ _ => d_str) (fun _ _ => d_str) rfl (by rw [dec_str, Bool.beq_eq_decide_eq])
theorem b_neI {i j : Int} : B1 F W K (compareOp .NotEq) (.int i) (.int j) (.bool (!decide (i = j))) := sc_cmp (g := fun x y => !decide (x = y)) (fun _ => op_ne) (fun _ _ => d_int) (fun _ _ => d_int) rfl (by rw [dec_int, Bool.beq_eq_decide_eq])
theorem b_neS {i j : Str} : B1 F W K (compareOp .NotEq) (.str i) (.str j) (.bool (!decide (i = j))) := sc_cmp (g := fun x y => !decide (x = y)) (fun _ => op_ne) (fun _ _ => d_str) (fun _ _ => d_str) rfl (by rw [dec_str, Bool.beq_eq_decide_eq])

/-! ### comprehensions over a range -/
theorem lc_turnsR {elt : Expr} {ifs : List Expr} {scope : Scope} {j n : Nat} {D : Addr} {H1 : Hp} {σ : L2.St} {f : Nat → Bool} {R : Nat → PyData → Prop} {Q : VK} (i1 : W.I H1) (sd : Sd W K H1 σ env) (hD : H1 D = none) (hz : n ≤ sizeLine)
    (ht : ∀ i D acc, i < n → ¬ W.M D → EvIf (FB F scope) (W.plus D (.lst acc)) K ifs ((env.set j .any).set j (.dat (.int (i : Int)))) (f i))
    (he : ∀ i D acc, i < n → f i = true → ¬ W.M D → Ev (FB F scope) (W.plus D (.lst acc)) K elt ((env.set j .any).set j (.dat (.int (i : Int)))) fun s => ∃ e, s = .dat e ∧ R i e)
    (q : ∀ H' es, Wx W H1 H' → W.I H' → Dn W K H' (.ref D) (.list es) → Paired (fun i e => R i e) ((List.range n).filter f) es → Q (.ref D) H') :
    ∃ Wl : Nat → Nat → Hp → Prop, (∃ m, Wl 0 m (upd H1 D (.lst []))) ∧ ∀ i m H, Wl i m H →
      ((Itr 0 n).stop i H ∧ Q (.ref D) H) ∨ ((Itr 0 n).go i H ∧ ∃ Nx : Hp → Prop, (∀ H', Nx H' → ∃ m', m' < m ∧ Wl (i + 1) m' H') ∧ ∀ x H', (Itr 0 n).yld i H x H' → gName j x (L2.wipe σ [j]) H' fun σ2 H2 => L2.wipe σ2 [j] = L2.wipe σ [j] ∧ WTs (FB F scope) ifs σ2 H2 fun b H3 =>
        if b = true then WE (FB F scope) elt σ2 H3 fun y H4 => ∃ acc, H4 D = some (.lst acc) ∧ acc.length < sizeLine ∧ Nx (upd H4 D (.lst (acc ++ [y]))) else Nx H3) := by
  have nD : ¬ W.M D := fun m => W.has H1 D i1 m hD
  refine lc_range (lo := 0) (n := n) (fun i H' => ∃ acc es, (W.plus D (.lst acc)).I H' ∧ Wx (W.plus D (.lst acc)) H1 H' ∧ DnAll (W.plus D (.lst acc)) K H' acc es ∧ Paired (fun i e => R i e) ((List.range i).filter f) es) ?_ ?_ ?_
  · exact ⟨[], [], ⟨W.mono _ _ i1 (Xt.new hD), upd_same⟩, fun p o _ h => Xt.new hD p o h, .nil, .nil⟩
  · intro i H' hi ⟨acc, es, ii, xx, dn, pr⟩
    have e0 : (0 : Int) + (i : Int) = (i : Int) := by omega
    rw [e0]
    have to1 : ∀ b, H1 b ≠ none → (W.plus D (.lst acc)).M b → W.M b := plus_of hD
    have sd' : Sd (W.plus D (.lst acc)) K H' ((L2.wipe σ [j]).set j (some (.int (i : Int)))) ((env.set j .any).set j (.dat (.int (i : Int)))) := Sd.set (Dn.dv (.int _)) j (((sd.to to1).wipe [j]).mono xx)
    refine ⟨wipe_set j, ?_⟩
    refine ht i D acc hi nD _ H' ii sd' _ fun H3 x3 i3 => ?_
    have lt : acc.length ≤ i := by
      have l1 := dn.length
      have l2 := Paired.length pr
      have l3 := List.length_filter_le f (List.range i)
      rw [List.length_range] at l3
      omega
    cases hf : f i with
    | true =>
      refine he i D acc hi hf nD _ H3 i3 (sd'.mono x3) _ fun y H4 r x4 i4 d4 h4 => ?_
      obtain ⟨e, rfl, hR⟩ := h4
      obtain ⟨u, z, dy⟩ := d4
      cases z
      have up : Wx (W.plus D (.lst acc)) H4 (upd H4 D (.lst (acc ++ [y]))) := fun p o n h => by
        rw [upd_ne fun z => n (Or.inr z)]
        exact h
      refine ⟨acc, i4.2, by omega, acc ++ [y], es ++ [e], ⟨W.loc _ _ i4.1 fun b m => upd_ne fun z => nD (z ▸ m), upd_same⟩, ?_, ?_, ?_⟩
      · intro p o n h
        exact up p o n (x4 p o n (x3 p o n (xx p o n h)))
      · refine DnAll.to (W := W.plus D (.lst acc)) (W' := W.plus D (.lst (acc ++ [y]))) (fun _ _ m => m) (DnAll.mono up ?_)
        exact ((dn.mono x3).mono x4).append (.cons dy .nil)
      · rw [List.range_succ, List.filter_append, List.filter_cons, if_pos hf]
        exact paired_app pr (.cons hR .nil)
    | false =>
      refine ⟨acc, es, i3, fun p o n h => x3 p o n (xx p o n h), dn.mono x3, ?_⟩
      rw [List.range_succ, List.filter_append, List.filter_cons, if_neg (by rw [hf]; exact Bool.false_ne_true)]
      show Paired _ (_ ++ []) es
      rw [List.append_nil]
      exact pr
  · intro H' ⟨acc, es, ii, xx, dn, pr⟩
    refine q H' es (fun p o n h => xx p o (fun m => m.elim n fun z => ?_) h) ii.1 ?_ pr
    · rw [z, hD] at h
      exact nomatch h
    · exact .lst ⟨nD, ii.2⟩ (DnAll.to (W := W.plus D (.lst acc)) (W' := W) (fun _ _ m => Or.inl m) dn)
theorem lc_readR {elt a : Expr} {ifs : List Expr} {scope : Scope} {j n : Nat} {f : Nat → Bool} {R : Nat → PyData → Prop} (hi : A1 F W K [a] env [.int (n : Int)]) (hz : n ≤ 1000000)
    (ht : ∀ i D acc, i < n → ¬ W.M D → EvIf (FB F scope) (W.plus D (.lst acc)) K ifs ((env.set j .any).set j (.dat (.int (i : Int)))) (f i))
    (he : ∀ i D acc, i < n → f i = true → ¬ W.M D → Ev (FB F scope) (W.plus D (.lst acc)) K elt ((env.set j .any).set j (.dat (.int (i : Int)))) fun s => ∃ e, s = .dat e ∧ R i e)
    (σ : L2.St) (H : Hp) (ii : W.I H) (sd : Sd W K H σ env) (Q : VK) (q : ∀ v H' es, Wx W H H' → W.I H' → Dn W K H' v (.list es) → Paired (fun i e => R i e) ((List.range n).filter f) es → Q v H') :
    tLc (iRng1 (WA F [a])) (gName j) (WTs (FB F scope) ifs) (WE (FB F scope) elt) [j] σ H Q := by
  refine hi σ H ii sd _ fun vs H1 r x1 i1 d1 h1 => ?_
  subst h1
  match vs, d1 with
  | [v], ⟨⟨u, e, dn⟩, _⟩ =>
    cases e
    cases dn
    refine ⟨(n : Int), rfl, by omega, by omega, fun D hD => ?_⟩
    exact lc_turnsR (n := ((n : Int).toNat)) i1 (sd.mono x1) hD (sz_small (by omega)) ht he fun H' es x' i' dn pr => q _ H' es (x1.trans x') i' dn pr
theorem ev_lcR (fm : Fam P w K mg base N k sc F) {x : Str} {px p pc pos : Pos} {elt a : Expr} {ifs : List Expr} {scope : Scope} {n : Nat} {f : Nat → Bool} {R : Nat → PyData → Prop} (j : Nat) (hN : N[j]? = some x) (o : lcB N sc scope x j = true) (hi : A1 F W K [a] env [.int (n : Int)]) (hm : mg "range" = none)
    (ht : ∀ i D acc, i < n → ¬ W.M D → Fam P w K mg base N k (relS scope sc) (FB F scope) → EvIf (FB F scope) (W.plus D (.lst acc)) K ifs ((env.set j .any).set j (.dat (.int (i : Int)))) (f i))
    (he : ∀ i D acc, i < n → f i = true → ¬ W.M D → Fam P w K mg base N k (relS scope sc) (FB F scope) → Ev (FB F scope) (W.plus D (.lst acc)) K elt ((env.set j .any).set j (.dat (.int (i : Int)))) fun s => ∃ e, s = .dat e ∧ R i e)
    (hz : n ≤ 1000000) (hg : glB sc "range" = true := by decide +kernel) (st : ∀ i, starEach [a] (F i).env = [(false, eval a (F i).env)] := by intro _; rfl)
    (hf : ∀ i x, foldedSetIterable (.Call (.Name "range" p) [a] [] pc) (F i).env x = pure x := by intro _ _; rfl) :
    Ev F W K (.ListComp elt [⟨.Name x px, .Call (.Name "range" p) [a] [] pc, ifs, 0⟩] scope pos) env fun s => ∃ es, s = .dat (.list es) ∧ Paired (fun i e => R i e) ((List.range n).filter f) es := by
  intro σ H ii sd Q q
  refine ⟨_, fun z => ?_, lc_readR hi hz (fun i D acc a b => ht i D acc a b (fm.blk scope (lc_kind o))) (fun i D acc a b c => he i D acc a b c (fm.blk scope (lc_kind o))) σ H ii sd Q fun v H' es x' i' dn pr => q v H' _ x' i' dn.dv ⟨es, rfl, pr⟩⟩
  exact pe_lc (own := [(x, j)]) (fm.ca z) (by rw [fm.nn z]; exact fm.nd) (pi_range1 (gl_of (fm.es z) hg) (by rw [fm.mg z]; exact hm) (wa_pa z) (st z)) (lc_ok fm o z) (fun s H C cl fp => lc_gName fm o hN z s H C cl fp) (fun s H C cl fp => wts_pts (F := FB F scope) (z, s, H, C, cl, fp)) (fun s H C cl fp => we_pe (F := FB F scope) (z, s, H, C, cl, fp)) (hf z)
theorem bd_lcR (fm : Fam P w K mg base N k sc F) {x y : Str} {px py p pc pos spos : Pos} {elt a : Expr} {ifs : List Expr} {scope : Scope} {f : Nat → Bool} {R : Nat → PyData → Prop} {rest : List Stmt} {Po : Post} {n : Nat} (l j : Nat) (hY : N[l]? = some y) (hN : N[j]? = some x) (o : lcB N sc scope x j = true) (hi : A1 F W K [a] env [.int (n : Int)]) (hm : mg "range" = none)
    (ht : ∀ i D acc, i < n → ¬ W.M D → Fam P w K mg base N k (relS scope sc) (FB F scope) → EvIf (FB F scope) (W.plus D (.lst acc)) K ifs ((env.set j .any).set j (.dat (.int (i : Int)))) (f i))
    (he : ∀ i D acc, i < n → f i = true → ¬ W.M D → Fam P w K mg base N k (relS scope sc) (FB F scope) → Ev (FB F scope) (W.plus D (.lst acc)) K elt ((env.set j .any).set j (.dat (.int (i : Int)))) fun s => ∃ e, s = .dat e ∧ R i e)
    (hz : n ≤ 1000000) (hr : ∀ es, Paired (fun i e => R i e) ((List.range n).filter f) es → Bd F W K rest (env.set l (.dat (.list es))) Po) (hg : glB sc "range" = true := by decide +kernel) (st : ∀ i, starEach [a] (F i).env = [(false, eval a (F i).env)] := by intro _; rfl)
    (hl : lclB sc y = true := by decide +kernel) (sl : (py.line == pos.line) = true := by rfl) (sa : (scope.names.any fun (n, k) => n == y && (k == .local || k == .cell)) = false := by decide +kernel)
    (hf : ∀ i x, foldedSetIterable (.Call (.Name "range" p) [a] [] pc) (F i).env x = pure x := by intro _ _; rfl) : Bd F W K (.Assign [.Name y py] (.ListComp elt [⟨.Name x px, .Call (.Name "range" p) [a] [] pc, ifs, 0⟩] scope pos) spos :: rest) env Po := by
  intro σ H D ii sd g
  refine ⟨tSeq (tAsg (tLc (iRng1 (WA F [a])) (gName j) (WTs (FB F scope) ifs) (WE (FB F scope) elt) [j]) (gName l)) (WS F rest), fun z => ?_, lc_readR hi hz (fun i D acc a b => ht i D acc a b (fm.blk scope (lc_kind o))) (fun i D acc a b c => he i D acc a b c (fm.blk scope (lc_kind o))) σ H ii sd (fun v H1 => gName l v σ H1 (WS F rest D)) fun v H' es x' i' dn pr => hr es pr _ _ _ i' (Sd.set dn.dv l (sd.mono x')) (g.mono x')⟩
  exact pss_cons (ps_setLc (own := [(x, j)]) (fm.ca z) (by rw [fm.nn z]; exact fm.nd) (by rw [fm.nn z]; exact hY) (lcl_of (fm.es z) hl) (sw_true (by rw [fm.es z]; exact fm.kd) (lcl_of (fm.es z) hl) sl sa) (pi_range1 (gl_of (fm.es z) hg) (by rw [fm.mg z]; exact hm) (wa_pa z) (st z)) (lc_ok fm o z) (fun s H C cl fp => lc_gName fm o hN z s H C cl fp) (fun s H C cl fp => wts_pts (F := FB F scope) (z, s, H, C, cl, fp)) (fun s H C cl fp => we_pe (F := FB F scope) (z, s, H, C, cl, fp)) (hf z)) (ws_ps z)
end
end Cr

set_option Elab.async false
set_option linter.all false
set_option maxRecDepth 100000
set_option maxHeartbeats 4000000
namespace Cr
open PySem PySem.Spec PyProof.Rows L2
section
variable {ι : Type} {F : ι → Cx} {P : Program} {w : World} {K : PySem.W.Frag} {mg : Str → Option Value} {base : Heap} {N : List Str} {k : Nat} {sc : Scope} {W : Wd} {env : List Sl}

/-! ## the pot itself, by its places -/
theorem ev_pot0 (fm : Fam P w K mg base N k sc F) {a b : Expr} {pos : Pos} {p c : Addr} {ns : List Int} (dw : Draws W p c ns) (ha : E1 F W K a env (.raw (.ref p))) (hb : E1 F W K b env (.dat (.int 0))) (hs : PlainIx b := by exact fun _ _ => rfl) : E1 F W K (.Subscript a b pos) env (.raw (.ref c)) := by
  intro σ H i sd Q q
  refine ⟨tOp (rIxL K) (WE F a) (WE F b), fun z => pe_ix (by have := ix_list (X := F z); rwa [fm.kk z] at this) (we_pe z) (we_pe z) hs, ?_⟩
  refine ha σ H i sd _ fun v1 H1 r1 x1 i1 d1 h1 => ?_
  refine hb σ H1 i1 (sd.mono x1) _ fun v2 H2 r2 x2 i2 d2 h2 => ?_
  subst h1 h2
  cases (show some v1 = some (V.ref p) from d1)
  obtain ⟨u2, z2, n2⟩ := d2
  cases z2
  cases n2
  obtain ⟨_, ⟨i', x, y, e⟩, _⟩ := dw.pot H2 i2
  exact ⟨p, _, 0, .ref c, rfl, rfl, SqL.of e, rfl, q _ H2 _ (x1.trans x2) i2 raw_dv rfl⟩
theorem ev_potI (fm : Fam P w K mg base N k sc F) {a b : Expr} {pos : Pos} {p c : Addr} {ns : List Int} {j : Int} (dw : Draws W p c ns) (hj : j = 1 ∨ j = 2 ∨ j = 3) (ha : E1 F W K a env (.raw (.ref p))) (hb : E1 F W K b env (.dat (.int j))) (hs : PlainIx b := by exact fun _ _ => rfl) : Ev F W K (.Subscript a b pos) env fun s => ∃ n, s = .dat (.int n) := by
  intro σ H i sd Q q
  refine ⟨tOp (rIxL K) (WE F a) (WE F b), fun z => pe_ix (by have := ix_list (X := F z); rwa [fm.kk z] at this) (we_pe z) (we_pe z) hs, ?_⟩
  refine ha σ H i sd _ fun v1 H1 r1 x1 i1 d1 h1 => ?_
  refine hb σ H1 i1 (sd.mono x1) _ fun v2 H2 r2 x2 i2 d2 h2 => ?_
  subst h1 h2
  cases (show some v1 = some (V.ref p) from d1)
  obtain ⟨u2, z2, n2⟩ := d2
  cases z2
  cases n2
  obtain ⟨_, ⟨i', x, y, e⟩, _⟩ := dw.pot H2 i2
  rcases hj with rfl | rfl | rfl
  · exact ⟨p, _, 1, .int i', rfl, rfl, SqL.of e, rfl, q _ H2 _ (x1.trans x2) i2 (Dn.dv (.int _)) ⟨_, rfl⟩⟩
  · exact ⟨p, _, 2, .int x, rfl, rfl, SqL.of e, rfl, q _ H2 _ (x1.trans x2) i2 (Dn.dv (.int _)) ⟨_, rfl⟩⟩
  · exact ⟨p, _, 3, .int y, rfl, rfl, SqL.of e, rfl, q _ H2 _ (x1.trans x2) i2 (Dn.dv (.int _)) ⟨_, rfl⟩⟩
theorem ev_cellLen (fm : Fam P w K mg base N k sc F) {a : Expr} {p pos : Pos} {pp c : Addr} {ns : List Int} (dw : Draws W pp c ns) (ha : E1 F W K a env (.raw (.ref c))) (hm : mg "len" = none) (hg : glB sc "len" = true := by decide +kernel)
    (st : ∀ i, starEach [a] (F i).env = (false, eval a (F i).env) :: starEach [] (F i).env := by intro _; rfl) (pl : ∀ i, (backTo pos (starEach [] (F i).env)).any (·.1) = false := by intro _; rfl) : E1 F W K (.Call (.Name "len" p) [a] [] pos) env (.dat (.int (ns.length : Int))) := by
  intro σ H i sd Q q
  refine ⟨tCB (rLn K) (tCons (WE F a) tNil), fun z => pe_callB (call_ln fm z) (gl_of (fm.es z) hg) (by rw [fm.mg z]; exact hm) PySem.boot_len (pa_cons (we_pe z) pa_nil (st z)) (by decide) (by decide) (st z) (pl z), ?_⟩
  refine ha σ H i sd _ fun v1 H1 r1 x1 i1 d1 h1 => ?_
  subst h1
  cases (show some v1 = some (V.ref c) from d1)
  have e := (dw.pot H1 i1).2.2
  refine ⟨c, _, rfl, Or.inl (SqL.of e), ?_⟩
  rw [List.length_map]
  exact q _ H1 _ x1 i1 (Dn.dv (.int _)) rfl
theorem ev_cellIx (fm : Fam P w K mg base N k sc F) {a b : Expr} {pos : Pos} {p c : Addr} {ns : List Int} {R : Sl → Prop} (dw : Draws W p c ns) (ha : E1 F W K a env (.raw (.ref c))) (hb : Ev F W K b env R) (hR : ∀ r, R r → ∃ j : Nat, r = .dat (.int (j : Int)) ∧ j < ns.length) (hs : PlainIx b := by exact fun _ _ => rfl) :
    Ev F W K (.Subscript a b pos) env fun s => ∃ n, s = .dat (.int n) := by
  intro σ H i sd Q q
  refine ⟨tOp (rIxL K) (WE F a) (WE F b), fun z => pe_ix (by have := ix_list (X := F z); rwa [fm.kk z] at this) (we_pe z) (we_pe z) hs, ?_⟩
  refine ha σ H i sd _ fun v1 H1 r1 x1 i1 d1 h1 => ?_
  refine hb σ H1 i1 (sd.mono x1) _ fun v2 H2 r2 x2 i2 d2 h2 => ?_
  subst h1
  cases (show some v1 = some (V.ref c) from d1)
  obtain ⟨j, rfl, hj⟩ := hR r2 h2
  obtain ⟨u2, z2, n2⟩ := d2
  cases z2
  cases n2
  have e := (dw.pot H2 i2).2.2
  have at1 : (ns.map V.int)[j]? = some (.int ns[j]) := by rw [List.getElem?_map, List.getElem?_eq_getElem hj] <;> rfl
  exact ⟨c, _, (j : Int), .int ns[j], rfl, rfl, SqL.of e, atI_nat at1, q _ H2 _ (x1.trans x2) i2 (Dn.dv (.int _)) ⟨_, rfl⟩⟩
theorem dp_ints {H : Hp} : ∀ ns : List Int, DpAll K H (ns.map V.int) (ns.map PyData.int)
  | [] => .nil
  | n :: ns => .cons (.int n) (dp_ints ns)
theorem nice_ints {m : Nat} : ∀ ns : List Int, NiceAll (ns.map PyData.int) m
  | [] => .nil
  | _ :: ns => .cons .int (nice_ints ns)
/-- cells != [] -/
theorem et_cells (fm : Fam P w K mg base N k sc F) {a : Expr} {pos p2 : Pos} {p c : Addr} {ns : List Int} (dw : Draws W p c ns) (ha : E1 F W K a env (.raw (.ref c))) : T1 F W K (.Compare a [.NotEq] [.List [] p2] pos) env (!ns.isEmpty) := by
  intro σ H i sd Q q
  refine ⟨tTest (tOp (rNeD K) (WE F a) (tLst tNil)), fun z => pt_cmpR (by have := op_neD (fm.ro z).units; rwa [fm.kk z] at this) (we_pe z) (pe_lst pa_nil) (nomark _), ?_⟩
  refine ha σ H i sd _ fun v1 H1 r1 x1 i1 d1 h1 => ?_
  subst h1
  cases (show some v1 = some (V.ref c) from d1)
  refine ⟨Nat.zero_le _, fun l hl => ?_⟩
  obtain ⟨n, x2, i2⟩ := W.new (o := .lst []) i1 hl
  have e := (dw.pot _ i2).2.2
  refine ⟨.list (ns.map PyData.int), .list [], .lst (SqL.of e) (dp_ints ns), .lst (SqL.of upd_same) .nil, (Nice.list (n := 3) (nice_ints ns)).shaped, (Nice.list (n := 3) .nil).shaped, ?_⟩
  refine ⟨_, rfl, q _ _ (x1.trans x2) i2 ?_⟩
  cases ns with
  | nil => simp only [List.map_nil, PyData.eqv, PyData.eqvAll]; rfl
  | cons _ _ => simp only [List.map_cons, PyData.eqv, PyData.eqvAll]; rfl
/-- pot[j] = an int -/
theorem bd_setPot (fm : Fam P w K mg base N k sc F) {a b e : Expr} {pos p2 : Pos} {rest : List Stmt} {Po : Post} {R : Sl → Prop} {p c : Addr} {ns : List Int} {j : Int} (dw : Draws W p c ns) (hj : j = 1 ∨ j = 2 ∨ j = 3) (he : Ev F W K e env R) (hR : ∀ r, R r → ∃ n, r = .dat (.int n)) (ha : E1 F W K a env (.raw (.ref p))) (hb : E1 F W K b env (.dat (.int j))) (hr : Bd F W K rest env Po)
    (h1 : ∀ i, swapsWithSole [.Subscript a b p2] e pos.line (F i).env = pure false := by intro _; rfl) (h2 : ∀ i, swappedStores [.Subscript a b p2] e (F i).env = pure none := by intro _; rfl) (h3 : ∀ i, (assignEach [.Subscript a b p2] (F i).env).map (·.2) = [assign (.Subscript a b p2) (F i).env] := by intro _; rfl)
    (h4 : ∀ i, ∀ v, assign (.Subscript a b p2) (F i).env v = (do
      let ov ← holding [v] (eval a (F i).env)
      let iv ← holding [v, ov] (eval b (F i).env)
      standAt p2
      holding [v, ov, iv] (setItem ov iv v)
      release [v, ov, iv] []) := by intro _ _; rfl) : Bd F W K (.Assign [.Subscript a b p2] e pos :: rest) env Po := by
  intro σ H D ii sd g
  refine ⟨tSeq (tAsg (WE F e) (gSub (WE F a) (WE F b) rSetL)) (WS F rest), fun z => pss_cons (ps_asg (we_pe z) (pg_sub (we_pe z) (we_pe z) set_list (h4 z)) (h1 z) (h2 z) (h3 z)) (ws_ps z), ?_⟩
  refine he σ H ii sd _ fun v0 H0 r0 x0 i0 d0 hr0 => ?_
  obtain ⟨n, rfl⟩ := hR r0 hr0
  obtain ⟨u0, z0, n0⟩ := d0
  cases z0
  cases n0
  refine ha σ H0 i0 (sd.mono x0) _ fun v1 H1 r1 x1 i1 d1 e1 => ?_
  refine hb σ H1 i1 (sd.mono (x0.trans x1)) _ fun v2 H2 r2 x2 i2 d2 e2 => ?_
  subst e1 e2
  cases (show some v1 = some (V.ref p) from d1)
  obtain ⟨u2, z2, n2⟩ := d2
  cases z2
  cases n2
  obtain ⟨ne, ⟨i', x, y, e⟩, ec⟩ := dw.pot H2 i2
  have fin : ∀ i' x y : Int, WS F rest D σ (upd H2 p (.lst [.ref c, .int i', .int x, .int y])) := fun i' x y => by
    have xx : Wx W H2 (upd H2 p (.lst [.ref c, .int i', .int x, .int y])) := fun b o nb hb' => by
      rw [upd_ne (show b ≠ p from fun z => nb (by rw [z]; exact dw.mp))]
      exact hb'
    have all := ((x0.trans x1).trans x2).trans xx
    exact hr σ _ D (dw.step H2 _ i2 (fun b _ nb => upd_ne nb) ⟨ne, ⟨i', x, y, upd_same⟩, by rw [upd_ne (Ne.symm ne)]; exact ec⟩) (sd.mono all) (g.mono all)
  rcases hj with rfl | rfl | rfl
  · exact ⟨p, _, 1, 1, rfl, rfl, e, rfl, fin n x y⟩
  · exact ⟨p, _, 2, 2, rfl, rfl, e, rfl, fin i' n y⟩
  · exact ⟨p, _, 3, 3, rfl, rfl, e, rfl, fin i' x n⟩

/-! ## built-ins by their names -/
theorem e_abs (fm : Fam P w K mg base N k sc F) {e : Expr} {p pos : Pos} {n : Int} (ha : A1 F W K [e] env [.int n]) (hm : mg "abs" = none) (hg : glB sc "abs" = true := by decide +kernel)
    (st : ∀ i, starEach [e] (F i).env = (false, eval e (F i).env) :: starEach [] (F i).env := by intro _; rfl) (pl : ∀ i, (backTo pos (starEach [] (F i).env)).any (·.1) = false := by intro _; rfl) : E1 F W K (.Call (.Name "abs" p) [e] [] pos) env (.dat (.int (if n < 0 then -n else n))) :=
  ev_callB (id := "abs") fm ha hm c_abs (by decide +kernel) hg (by decide) (by decide) st pl
theorem e_int (fm : Fam P w K mg base N k sc F) {e : Expr} {p pos : Pos} {n : Int} (ha : A1 F W K [e] env [.int n]) (hm : mg "int" = none) (hg : glB sc "int" = true := by decide +kernel)
    (st : ∀ i, starEach [e] (F i).env = (false, eval e (F i).env) :: starEach [] (F i).env := by intro _; rfl) (pl : ∀ i, (backTo pos (starEach [] (F i).env)).any (·.1) = false := by intro _; rfl) : E1 F W K (.Call (.Name "int" p) [e] [] pos) env (.dat (.int n)) :=
  ev_callTy (id := "int") fm ha hm c_int (by decide +kernel) hg (by decide) (by decide) st pl
theorem e_intB (fm : Fam P w K mg base N k sc F) {e : Expr} {p pos : Pos} {b : Bool} (ha : A1 F W K [e] env [.bool b]) (hm : mg "int" = none) (hg : glB sc "int" = true := by decide +kernel)
    (st : ∀ i, starEach [e] (F i).env = (false, eval e (F i).env) :: starEach [] (F i).env := by intro _; rfl) (pl : ∀ i, (backTo pos (starEach [] (F i).env)).any (·.1) = false := by intro _; rfl) : E1 F W K (.Call (.Name "int" p) [e] [] pos) env (.dat (.int (if b then 1 else 0))) :=
  ev_callTy (id := "int") fm ha hm c_intB (by decide +kernel) hg (by decide) (by decide) st pl
theorem e_max (fm : Fam P w K mg base N k sc F) {e e2 : Expr} {p pos : Pos} {n m : Int} (ha : A1 F W K [e, e2] env [.int n, .int m]) (hm : mg "max" = none) (hg : glB sc "max" = true := by decide +kernel)
    (st : ∀ i, starEach [e, e2] (F i).env = (false, eval e (F i).env) :: starEach [e2] (F i).env := by intro _; rfl) (pl : ∀ i, (backTo pos (starEach [e2] (F i).env)).any (·.1) = false := by intro _; rfl) : E1 F W K (.Call (.Name "max" p) [e, e2] [] pos) env (.dat (.int (if m > n then m else n))) :=
  ev_callB (id := "max") fm ha hm (c_max fm) (by decide +kernel) hg (by decide) (by decide) st pl
theorem e_min (fm : Fam P w K mg base N k sc F) {e e2 : Expr} {p pos : Pos} {n m : Int} (ha : A1 F W K [e, e2] env [.int n, .int m]) (hm : mg "min" = none) (hg : glB sc "min" = true := by decide +kernel)
    (st : ∀ i, starEach [e, e2] (F i).env = (false, eval e (F i).env) :: starEach [e2] (F i).env := by intro _; rfl) (pl : ∀ i, (backTo pos (starEach [e2] (F i).env)).any (·.1) = false := by intro _; rfl) : E1 F W K (.Call (.Name "min" p) [e, e2] [] pos) env (.dat (.int (if m < n then m else n))) :=
  ev_callB (id := "min") fm ha hm (c_min fm) (by decide +kernel) hg (by decide) (by decide) st pl
theorem e_lenL (fm : Fam P w K mg base N k sc F) {e : Expr} {p pos : Pos} {ds : List PyData} (ha : A1 F W K [e] env [.list ds]) (hm : mg "len" = none) (hg : glB sc "len" = true := by decide +kernel)
    (st : ∀ i, starEach [e] (F i).env = (false, eval e (F i).env) :: starEach [] (F i).env := by intro _; rfl) (pl : ∀ i, (backTo pos (starEach [] (F i).env)).any (·.1) = false := by intro _; rfl) : E1 F W K (.Call (.Name "len" p) [e] [] pos) env (.dat (.int (ds.length : Int))) :=
  ev_callB (id := "len") fm ha hm (c_lenL fm) (by decide +kernel) hg (by decide) (by decide) st pl
theorem e_lenT (fm : Fam P w K mg base N k sc F) {e : Expr} {p pos : Pos} {ds : List PyData} (ha : A1 F W K [e] env [.tuple ds]) (hm : mg "len" = none) (hg : glB sc "len" = true := by decide +kernel)
    (st : ∀ i, starEach [e] (F i).env = (false, eval e (F i).env) :: starEach [] (F i).env := by intro _; rfl) (pl : ∀ i, (backTo pos (starEach [] (F i).env)).any (·.1) = false := by intro _; rfl) : E1 F W K (.Call (.Name "len" p) [e] [] pos) env (.dat (.int (ds.length : Int))) :=
  ev_callB (id := "len") fm ha hm (c_lenT fm) (by decide +kernel) hg (by decide) (by decide) st pl
theorem e_repr (fm : Fam P w K mg base N k sc F) {e : Expr} {p pos : Pos} {d : PyData} (sh : Shows d) (ha : A1 F W K [e] env [d]) (hm : mg "repr" = none) (hg : glB sc "repr" = true := by decide +kernel)
    (st : ∀ i, starEach [e] (F i).env = (false, eval e (F i).env) :: starEach [] (F i).env := by intro _; rfl) (pl : ∀ i, (backTo pos (starEach [] (F i).env)).any (·.1) = false := by intro _; rfl) : E1 F W K (.Call (.Name "repr" p) [e] [] pos) env (.dat (.str d.shown)) :=
  ev_callB (id := "repr") fm ha hm (c_repr fm sh) (by decide +kernel) hg (by decide) (by decide) st pl

/-! ## what is not told exactly -/
theorem Bin.some {f : Value → Value → Sem Value} {x y z : PyData} {R : Sl → Prop} (h : B1 F W K f x y z) (hr : R (.dat z)) : Bin F W K f x y R := fun H vx vy i nx ny Q q => h H vx vy i nx ny Q fun v H' r x' i' d e => q v H' r x' i' d (by rw [e]; exact hr)
theorem Bin.tr {f : Value → Value → Sem Value} {x y : PyData} {c : Bool} {R : Bool → Prop} (h : B1 F W K f x y (.bool c)) (hr : R c) : Bin F W K f x y fun s => ∃ c, s = .dat (.bool c) ∧ R c := Bin.some h ⟨c, rfl, hr⟩
theorem bd_ifJ {c : Expr} {a b rest : List Stmt} {pos : Pos} {R : Bool → Prop} {Po : Post} (Iv : List Sl → Prop) (hc : EvT F W K c env R) (h1 : R true → Bd F W K a env { Po with nx := Iv }) (h2 : R false → Bd F W K b env { Po with nx := Iv }) (h3 : ∀ e, Iv e → Bd F W K rest e Po) : Bd F W K (.If c a b pos :: rest) env Po := by
  intro σ H D i sd g
  refine ⟨tSeq (tIfS (WT F c) (WS F a) (WS F b)) (WS F rest), fun z => pss_cons (ps_if (wt_pt z) (ws_ps z) (ws_ps z)) (ws_ps z), ?_⟩
  refine hc σ H i sd _ fun t H1 x1 i1 ht => ?_
  have gg : Good W K { Po with nx := Iv } { D with nx := WS F rest D } H1 :=
    ⟨fun σ' H' e y i' s' hb => h3 e hb σ' H' D i' s' (g.mono (x1.trans y)), (g.mono x1).rt, (g.mono x1).bk, (g.mono x1).ct⟩
  cases t with
  | true => exact h1 ht σ H1 _ i1 (sd.mono x1) gg
  | false => exact h2 ht σ H1 _ i1 (sd.mono x1) gg
theorem et_any {c : Expr} {R : Bool → Prop} (h : EvT F W K c env R) : EvT F W K c env fun _ => True := h.imp fun _ _ => trivial
/-- a call of a built-in whose arguments are not told exactly -/
theorem ev_callTyN (fm : Fam P w K mg base N k sc F) {x : Str} {id : String} {p pos : Pos} {e : Expr} {es : List Expr} {Ra : List Sl → Prop} {R : Sl → Prop} (ha : EvA F W K (e :: es) env Ra) (hm : mg x = none) (hc : ∀ rs, Ra rs → ∃ ds : List PyData, rs = ds.map .dat ∧ Cal F W K (.type id) ds R) (hv : bootBuiltins x = some (.type id) := by decide +kernel)
    (hg : glB sc x = true := by decide +kernel) (hn : x ≠ "__name__" := by decide) (hdb : (x == ("__debug__" : Str)) = false := by decide) (st : ∀ i, starEach (e :: es) (F i).env = (false, eval e (F i).env) :: starEach es (F i).env := by intro _; rfl) (pl : ∀ i, (backTo pos (starEach es (F i).env)).any (·.1) = false := by intro _; rfl) :
    Ev F W K (.Call (.Name x p) (e :: es) [] pos) env R := by
  intro σ H i sd Q q
  refine ⟨tCB (WC F (.type id)) (WA F (e :: es)), fun z => pe_callTy (wc_call z) (gl_of (fm.es z) hg) (by rw [fm.mg z]; exact hm) hv (wa_pa z) hn hdb (st z) (pl z), ?_⟩
  refine ha σ H i sd _ fun vs H1 rs x1 i1 d1 h1 => ?_
  obtain ⟨ds, rfl, hC⟩ := hc rs h1
  exact hC H1 vs i1 (dn_of_sd d1) Q fun v H' r x' i' d h => q v H' r (x1.trans x') i' d h
theorem ev_callBN (fm : Fam P w K mg base N k sc F) {x : Str} {id : String} {p pos : Pos} {e : Expr} {es : List Expr} {Ra : List Sl → Prop} {R : Sl → Prop} (ha : EvA F W K (e :: es) env Ra) (hm : mg x = none) (hc : ∀ rs, Ra rs → ∃ ds : List PyData, rs = ds.map .dat ∧ Cal F W K (.builtin id) ds R) (hv : bootBuiltins x = some (.builtin id) := by decide +kernel)
    (hg : glB sc x = true := by decide +kernel) (hn : x ≠ "__name__" := by decide) (hdb : (x == ("__debug__" : Str)) = false := by decide) (st : ∀ i, starEach (e :: es) (F i).env = (false, eval e (F i).env) :: starEach es (F i).env := by intro _; rfl) (pl : ∀ i, (backTo pos (starEach es (F i).env)).any (·.1) = false := by intro _; rfl) :
    Ev F W K (.Call (.Name x p) (e :: es) [] pos) env R := by
  intro σ H i sd Q q
  refine ⟨tCB (WC F (.builtin id)) (WA F (e :: es)), fun z => pe_callB (wc_call z) (gl_of (fm.es z) hg) (by rw [fm.mg z]; exact hm) hv (wa_pa z) hn hdb (st z) (pl z), ?_⟩
  refine ha σ H i sd _ fun vs H1 rs x1 i1 d1 h1 => ?_
  obtain ⟨ds, rfl, hC⟩ := hc rs h1
  exact hC H1 vs i1 (dn_of_sd d1) Q fun v H' r x' i' d h => q v H' r (x1.trans x') i' d h
theorem Cal.some {f : Value} {ds : List PyData} {z : PyData} {R : Sl → Prop} (h : C1 F W K f ds z) (hr : R (.dat z)) : Cal F W K f ds R := fun H vs i dn Q q => h H vs i dn Q fun v H' r x' i' d e => q v H' r x' i' d (by rw [e]; exact hr)
theorem e_intN (fm : Fam P w K mg base N k sc F) {e : Expr} {p pos : Pos} (ha : Ev F W K e env fun s => ∃ n, s = .dat (.int n)) (hm : mg "int" = none) (hg : glB sc "int" = true := by decide +kernel)
    (st : ∀ i, starEach [e] (F i).env = (false, eval e (F i).env) :: starEach [] (F i).env := by intro _; rfl) (pl : ∀ i, (backTo pos (starEach [] (F i).env)).any (·.1) = false := by intro _; rfl) : Ev F W K (.Call (.Name "int" p) [e] [] pos) env fun s => ∃ n, s = .dat (.int n) :=
  ev_callTyN (id := "int") fm (ea_cons ha ea_nil st) hm (by
    rintro rs ⟨r, t, rfl, ⟨n, rfl⟩, rfl⟩
    exact ⟨[.int n], rfl, Cal.some c_int ⟨n, rfl⟩⟩) (by decide +kernel) hg (by decide) (by decide) st pl
end
end Cr

set_option Elab.async false
set_option linter.all false
set_option maxRecDepth 100000
set_option maxHeartbeats 4000000
namespace Cr
open PySem PySem.Spec PyProof.Rows L2
section
variable {P : Program} {w : World} {K : PySem.W.Frag} {mg : Str → Option Value} {base : Heap} {k : Nat} {x qual : Str} {st : Stmt} {f : Addr} {fd : FuncData} {N ps : List Str} {sp : Sp}
/-- a def by the reading of its body's term -/
theorem fn_raw (Fu : Fun K x qual st f fd) (S : FnScope N ps (defScope st)) (len : ∀ vs H Q E, sp vs H Q E → vs.length = ps.length)
    (body : ∀ (cdv : Value) (A : Around) (fr : List Env) (s : Shared) (H : Hp) (vs : List V) (Q : VK) (E : XK), A.guards = some [] → Room k (A.deeper (envOfC qual (defScope st) s.heap.objs.size f cdv)) → sp vs H Q E →
      ∃ t, PSs (cxOf CXn P w K mg base N qual (defScope st) f cdv A fr s H E).nox (defBody st) t ∧ t { nx := fun _ H' => Q .non H', rt := Q } (L2.start N vs) H) : FnG P w K mg base (k + 1) f fd ps sp := by
  obtain ⟨oc, od, kV, doc, pm, an, cdv, ct, osl, rfl, lk, hcd⟩ := Fu.ex
  refine fnG_of lk hcd S len fun A fr s H vs Q E g hr hsp => ?_
  obtain ⟨t, h, q⟩ := body cdv A fr s H vs Q E g hr hsp
  exact ⟨t, h.nox, q⟩
end
/-- the law's own script -/
def spScript (K : PySem.W.Frag) (G : Addr → Hp → VK → Prop) : Sp := fun vs H Q _ => ∃ (a : Addr) (ns : List Int), vs = [.ref a] ∧ SqL K H a (ns.map V.int) ∧ ns.length ≤ 63 ∧ G a H Q
abbrev spLaw (K : PySem.W.Frag) : Sp := spScript K fun _ _ Q => ∀ H', Q (.bl true) H'
/-- a pot made of the script -/
abbrev spPot (K : PySem.W.Frag) : Sp := spScript K fun _ H Q => ∀ p c ms H', H p = none → H c = none → Xt H H' → Pot p c ms H' → Q (.ref p) H'
theorem cut_to (ns : List Int) (n : Nat) : cutV (ns.map V.int) none (some (n : Int)) = (ns.take n).map V.int := by
  unfold cutV
  rw [HT.sIx_nat, HT.sIx_none, List.drop_zero, Nat.sub_zero, List.map_take, List.length_map]
  by_cases h : n ≤ ns.length
  · rw [Nat.min_eq_left h]
  · rw [Nat.min_eq_right (by omega), List.take_of_length_le (by rw [List.length_map]; omega), List.take_of_length_le (by rw [List.length_map]; omega)]
theorem cut_in (ns : List Int) (lo hi : Option Int) : ∃ ms : List Int, cutV (ns.map V.int) lo hi = ms.map V.int := by
  unfold cutV
  exact ⟨(ns.drop _).take _, by rw [List.map_take, List.map_drop]⟩
theorem cut_from0 (ns : List Int) (lo : Nat) (hi : Option Int) (h : ns.length ≤ lo) : cutV (ns.map V.int) (some (lo : Int)) hi = [] := by
  unfold cutV
  rw [HT.sIx_nat, Nat.min_eq_right (by rw [List.length_map]; exact h), List.drop_length, List.take_nil]
section
variable {P : Program} {w : World} {K : PySem.W.Frag} {mg : Str → Option Value} {base : Heap} {k : Nat} {x qual : Str} {st : Stmt} {f : Addr} {fd : FuncData} {N ps : List Str} {sp : Sp}
/-- the law: its pot first, then the rest in the pot's world -/
theorem fn_law {p1 p2 p3 p4 p5 : Pos} {rest : List Stmt} {j : Nat} (Fu : Fun K "law" "law" st f fd) (S : FnScope ("script" :: "pot" :: N) ["script"] (defScope st)) (hb : defBody st = .Assign [.Name "pot" p1] (.Call (.Name "_law_pot_of" p2) [.Name "script" p3] [] p4) p5 :: rest)
    (o : Own P w K mg base "_law_pot_of" j ["script"] (spPot K)) (hj : j ≤ k) (h1 : visB (defScope st) "script" = true := by decide +kernel) (h2 : locB (defScope st) "pot" = true := by decide +kernel) (h3 : glB (defScope st) "_law_pot_of" = true := by decide +kernel)
    (body : ∀ (cdv : Value) (A : Around) (fr : List Env) (s : Shared) (H : Hp) (E : XK) (a p c : Addr) (ms : List Int), Fam P w K mg base ("script" :: "pot" :: N) k (defScope st) (DF P w K mg base ("script" :: "pot" :: N) "law" (defScope st) f cdv A fr s H E) →
      Bd (DF P w K mg base ("script" :: "pot" :: N) "law" (defScope st) f cdv A fr s H E) (potW p c ms) K rest (.raw (.ref a) :: .raw (.ref p) :: List.replicate N.length .any) { nx := fun _ => False, rt := fun z => z = .dat (.bool true) }) : FnG P w K mg base (k + 1) f fd ["script"] (spLaw K) := by
  refine fn_raw Fu S (fun vs H Q E ⟨a, ns, e, _⟩ => by rw [e]; rfl) fun cdv A fr s H vs Q E g hr hsp => ?_
  obtain ⟨a, ns, rfl, hS, hl, q⟩ := hsp
  obtain ⟨fp, fdp, hm, hk, hbn, G⟩ := o.ex
  have fm : Fam P w K mg base ("script" :: "pot" :: N) k (defScope st) (DF P w K mg base ("script" :: "pot" :: N) "law" (defScope st) f cdv A fr s H E) :=
    ⟨fun _ => rfl, S.kind, fun _ => rfl, fun _ => rfl, fun _ => rfl, fun _ => rfl, fun _ => rfl, fun _ => rfl, S.nd, fun _ => rfl, fun _ => g, fun _ => hr⟩
  refine ⟨tSeq (tAsg (tCall (spPot K) [] E0 (tCons (tVar 0) tNil)) (gName 1)) (WS (DF P w K mg base ("script" :: "pot" :: N) "law" (defScope st) f cdv A fr s H E) rest), ?_, ?_⟩
  · rw [hb]
    exact pss_cons (ps_set S.nd rfl (loc_of rfl h2) (pe_callG (X := (cxOf CXn P w K mg base ("script" :: "pot" :: N) "law" (defScope st) f cdv A fr s H E).nox) G g (hr.mono hj) (gl_of rfl h3) hm hk hbn .nil (pa_cons (pe_var (i := 0) rfl (vis_of rfl h1)) pa_nil) E0) rfl (Or.inl rfl)) (ws_ps (F := DF P w K mg base ("script" :: "pot" :: N) "law" (defScope st) f cdv A fr s H E) ())
  · refine ⟨.ref a, rfl, a, ns, rfl, hS, hl, fun p c ms H' hp hc xt pot => ?_⟩
    refine body cdv A fr s H E a p c ms fm _ H' _ pot ?_ ⟨fun _ _ _ _ _ _ z => z.elim, fun v H2 r _ _ dv e => ?_, fun _ _ _ _ _ _ z => z.elim, fun _ _ _ _ _ _ z => z.elim⟩
    · refine ⟨rfl, rfl, ?_⟩
      show Sd _ _ _ (List.replicate _ none) _
      exact Sd.nones _
    · rw [show r = .dat (.bool true) from e] at dv
      obtain ⟨u, z, d⟩ := dv
      cases z
      cases d
      exact q H2
end
end Cr

set_option Elab.async false
set_option linter.all false
set_option maxRecDepth 100000
set_option maxHeartbeats 4000000
namespace Cr
open PySem PySem.Spec PyProof.Rows L2
section
variable {ι : Type} {F : ι → Cx} {P : Program} {w : World} {K : PySem.W.Frag} {mg : Str → Option Value} {base : Heap} {N : List Str} {k : Nat} {sc : Scope} {W : Wd} {env : List Sl}

/-! ## dicts with written texts as keys -/
theorem merge_app : ∀ (more acc : List (Key × V)), ((acc ++ more).map (·.1)).Nodup → mergeK acc more = acc ++ more
  | [], acc, _ => by rw [List.append_nil]; rfl
  | kv :: more, acc, h => by
    have e : putK acc kv.1 kv.2 = acc ++ [kv] := by
      unfold putK
      rw [if_neg]
      intro c
      obtain ⟨q, hq, hk⟩ := List.any_eq_true.mp c
      rw [List.map_append, List.map_cons] at h
      have hd := (List.nodup_append.mp h).2.2 q.1 (List.mem_map.mpr ⟨q, hq, rfl⟩) kv.1 List.mem_cons_self
      exact hd (of_decide_eq_true hk)
    show mergeK (putK acc kv.1 kv.2) more = _
    rw [e, merge_app more (acc ++ [kv]) (by rw [List.append_assoc]; exact h), List.append_assoc] <;> rfl
def txtKv (ks : List Str) (vs : List V) : List (Key × V) := (ks.zip vs).map fun p => (.inr p.1, p.2)
theorem kv_get {H : Hp} {x : Str} {d : PyData} : ∀ {ks : List Str} {ds : List PyData} {vs : List V}, DnAll W K H vs ds → (ks.zip ds).lookup x = some d → ∃ v, valV (txtKv ks vs) (.inr x) = some v ∧ Dn W K H v d
  | [], _, _, _, e => by simp at e
  | y :: ks, [], _, _, e => by simp at e
  | y :: ks, dy :: ds, _, h, e => by
    cases h with
    | @cons v vs _ _ a t =>
      by_cases c : y = x
      · subst c
        have e2 : dy = d := by simpa using e
        subst e2
        refine ⟨v, ?_, a⟩
        unfold txtKv valV
        rw [List.zip_cons_cons, List.map_cons, List.find?_cons_of_pos (by simp)] <;> rfl
      · have e2 : (ks.zip ds).lookup x = some d := by
          rw [List.zip_cons_cons, List.lookup_cons] at e
          rwa [show (x == y) = false from beq_eq_false_iff_ne.mpr (Ne.symm c)] at e
        obtain ⟨v', h1, h2⟩ := kv_get t e2
        refine ⟨v', ?_, h2⟩
        unfold txtKv valV at h1 ⊢
        rw [List.zip_cons_cons, List.map_cons, List.find?_cons_of_neg]
        · exact h1
        · intro z
          have z := of_decide_eq_true z
          injection z with z
          exact c z
theorem txt_nodup : ∀ {ks : List Str} {vs : List V}, ks.Nodup → ((([] : List (Key × V)) ++ txtKv ks vs).map fun p => p.1).Nodup := by
  intro ks vs h
  rw [List.nil_append]
  unfold txtKv
  rw [List.map_map]
  induction ks generalizing vs with
  | nil => simp
  | cons x ks ih =>
    cases vs with
    | nil => simp
    | cons v vs =>
      rw [List.zip_cons_cons, List.map_cons, List.nodup_cons]
      refine ⟨fun m => ?_, ih (List.nodup_cons.mp h).2⟩
      obtain ⟨⟨y, u⟩, hm, e⟩ := List.mem_map.mp m
      have e : (Sum.inr y : Key) = .inr x := e
      injection e with e
      exact (List.nodup_cons.mp h).1 (e ▸ (List.of_mem_zip hm).1)
def trsOf (F : ι → Cx) : List Str → List Expr → List (TE × TE)
  | x :: ks, e :: es => (tC (.str x), WE F e) :: trsOf F ks es
  | _, _ => []
/-- the values of a display, in a world where the empty dict at p waits -/
def EvP (F : ι → Cx) (W : Wd) (K : PySem.W.Frag) (es : List Expr) (env : List Sl) (ds : List PyData) : Prop :=
  ∀ (ks : List Str), ks.length = es.length → ∀ (σ : L2.St) (H : Hp), W.I H → Sd W K H σ env → ∀ Q : List (V × V) → Hp → Prop, (∀ vs H', Wx W H H' → W.I H' → DnAll W K H' vs ds → Q ((ks.zip vs).map fun p => (.str p.1, p.2)) H') → tPairs (trsOf F ks es) σ H Q
theorem p_nil : EvP F W K [] env [] := by
  intro ks hl σ H i sd Q q
  cases ks with
  | nil => exact q [] H (Wx.refl W H) i .nil
  | cons _ _ => exact absurd hl (by simp)
theorem p_cons {e : Expr} {es : List Expr} {d : PyData} {ds : List PyData} (h : E1 F W K e env (.dat d)) (t : EvP F W K es env ds) : EvP F W K (e :: es) env (d :: ds) := by
  intro ks hl σ H i sd Q q
  cases ks with
  | nil => exact absurd hl (by simp)
  | cons x ks =>
    show WE F e σ H _
    refine h σ H i sd _ fun v H1 r x1 i1 d1 h1 => ?_
    subst h1
    obtain ⟨u, z, n1⟩ := d1
    cases z
    refine t ks (by simpa using hl) σ H1 i1 (sd.mono x1) _ fun vs H2 x2 i2 dn => ?_
    exact q (v :: vs) H2 (x1.trans x2) i2 (.cons (n1.mono x2) dn)
theorem pps_of {pos : Pos} {jj : Nat} {ps : List Pos} : ∀ {ks : List Str} {es : List Expr} (z : ι), ks.length = es.length → ps.length = ks.length → PPs (F z) pos ((ks.zip ps).map fun p => some (.Constant (.str p.1) jj p.2)) es (trsOf F ks es)
  | [], [], z, _, _ => pps_nil
  | x :: ks, e :: es, z, h, h2 => by
    cases ps with
    | nil => exact absurd h2 (by simp)
    | cons p ps => exact pps_cons pe_str (we_pe z) (pps_of z (by simpa using h) (by simpa using h2))
  | [], _ :: _, _, h, _ => absurd h (by simp)
  | _ :: _, [], _, h, _ => absurd h (by simp)
def posOf (keys : List (Option Expr)) : List Pos := keys.map fun k => match k with
  | some (.Constant _ _ p) => p
  | _ => ⟨0, 0, 0, 0⟩
/-- {'a': .., 'b': ..}[key] -/
theorem ev_dispGet (fm : Fam P w K mg base N k sc F) {keys : List (Option Expr)} {es : List Expr} {ke : Expr} {dpos pos : Pos} {ds : List PyData} {x : Str} {d : PyData} (ks : List Str) (hk : keys = (ks.zip (posOf keys)).map fun p => some (.Constant (.str p.1) 0 p.2)) (l1 : ks.length = es.length) (l2 : (posOf keys).length = ks.length) (nd : ks.Nodup) (n0 : 0 < ks.length) (n1 : ks.length ≤ 15)
    (hv : ∀ D, ¬ W.M D → EvP F (W.plus D (.dK [])) K es env ds) (hx : E1 F W K ke env (.dat (.str x))) (hd : (ks.zip ds).lookup x = some d) (hs : NoSl ke := by exact fun _ _ => rfl) : E1 F W K (.Subscript (.Dict keys es dpos) ke pos) env (.dat d) := by
  intro σ H i sd Q q
  have len : keys.length = ks.length := by unfold posOf at l2; rwa [List.length_map] at l2
  refine ⟨tDGet (tDisp (trsOf F ks es)) (WE F ke), fun z => pe_dget (by have := (fm.ro z).units; omega) (pe_disp (Eq.mpr (congrArg (fun q => PPs (F z) dpos q es (trsOf F ks es)) hk) (pps_of z l1 l2)) ?_ (by rw [len, l1]) ?_ (by rw [len]; exact n1)) (we_pe z) hs, ?_⟩
  · refine List.all_eq_true.mpr fun q hq => ?_
    rw [hk] at hq
    obtain ⟨r, _, e⟩ := List.mem_map.mp hq
    rw [← e] <;> rfl
  · intro c
    rw [c] at len
    simp at len
    omega
  · intro p hp
    obtain ⟨np, xp, ip⟩ := W.new (o := .dK []) i hp
    have sd2 : Sd (W.plus p (.dK [])) K (upd H p (.dK [])) σ env := (sd.to (plus_of hp)).mono fun b o _ h => Xt.new hp b o h
    refine hv p np ks l1 σ _ ⟨ip, upd_same⟩ sd2 _ fun vs H2 x2 i2 dn => ?_
    have keep : ∀ b o, ¬ W.M b → H b = some o → upd H2 p (.dK (txtKv ks vs)) b = some o := fun b o n h => by
      have nb : b ≠ p := ne_of_none h hp
      rw [upd_ne nb]
      exact x2 b o (fun m => m.elim n nb) (Xt.new hp b o h)
    refine ⟨i2.2, txtKv ks vs, ?_, ?_, ?_⟩
    · unfold txtKv
      rw [List.map_map] <;> rfl
    · unfold txtKv
      rw [List.length_map, List.length_zip]
      omega
    · rw [merge_app _ _ (txt_nodup nd)]
      show WE F ke σ (upd H2 p (.dK (txtKv ks vs))) _
      refine hx σ _ (W.loc _ _ i2.1 fun b m => upd_ne (show b ≠ p from fun z => np (by rw [← z]; exact m))) (sd.mono keep) _ fun y H4 r x4 i4 d4 h4 => ?_
      subst h4
      obtain ⟨u, z, n4⟩ := d4
      cases z
      cases n4
      have up : Wx (W.plus p (.dK [])) H2 (upd H2 p (.dK (txtKv ks vs))) := fun b o n h => by
        rw [upd_ne fun z => n (Or.inr z)]
        exact h
      have dn4 : DnAll W K H4 vs ds := DnAll.mono x4 (DnAll.to (W := W.plus p (.dK [])) (W' := W) (fun _ _ m => Or.inl m) (dn.mono up))
      obtain ⟨v, hv1, hv2⟩ := kv_get dn4 hd
      have e4 : H4 p = some (.dK (txtKv ks vs)) := x4 p _ np upd_same
      refine ⟨p, v, rfl, ?_, q v H4 _ (fun b o n h => x4 b o n (keep b o n h)) i4 hv2.dv rfl⟩
      rw [← hv1]
      exact DGet.k (k := .inr x) e4
end
end Cr

set_option Elab.async false
set_option linter.all false
set_option maxRecDepth 100000
set_option maxHeartbeats 4000000
namespace Cr
open PySem PySem.Spec PyProof.Rows L2

/-! ## how long repr's text is -/
structure RP (d : PyData) (n : Nat) : Prop where
  sh : d.showable = true
  sz : d.shown.length ≤ n
structure RPs (ds : List PyData) (n : Nat) : Prop where
  sh : PyData.showableAll ds = true
  sz : piled (PyData.shownAll ds) ≤ n
theorem RP.none : RP .none 4 := ⟨by simp only [PyData.showable], by simp only [PyData.shown]; decide +kernel⟩
theorem RP.bool {b : Bool} : RP (.bool b) 5 := ⟨by simp only [PyData.showable], by simp only [PyData.shown]; cases b <;> decide +kernel⟩
theorem RP.int {i : Int} (h : i.natAbs < 2 ^ 100) : RP (.int i) 101 := by
  have hl : i.natAbs.log2 < 100 := PySem.Flt.log2_lt_of (by decide) h
  refine ⟨?_, ?_⟩
  · simp only [PyData.showable]
    exact decide_eq_true (by omega)
  · simp only [PyData.shown]
    have e := int_text_length_le (k := 100) (by decide) hl
    rw [PySem.ofString_length]
    exact e
theorem RP.str {x : Str} (h : PyData.strOk x = true) : RP (.str x) (10 * x.length + 2) := by
  refine ⟨by simp only [PyData.showable], ?_⟩
  simp only [PyData.shown]
  refine StrLaws.reprText_len x fun c hc => ?_
  unfold PyData.strOk at h
  rw [Array.all_eq_true'] at h
  have := of_decide_eq_true (h c (by simpa using hc))
  exact Nat.lt_trans this (by decide)
theorem RPs.nil : RPs [] 0 := ⟨by simp only [PyData.showableAll], by simp only [PyData.shownAll]; exact Nat.le_refl _⟩
theorem RPs.cons {d : PyData} {ds : List PyData} {n m : Nat} (h : RP d n) (t : RPs ds m) : RPs (d :: ds) (n + 2 + m) :=
  ⟨by simp only [PyData.showableAll, h.sh, t.sh, Bool.and_self], by simp only [PyData.shownAll]; rw [piled_cons]; have := h.sz; have := t.sz; omega⟩
theorem RP.tuple {ds : List PyData} {n : Nat} (h : RPs ds n) : RP (.tuple ds) (n + 2) := ⟨by simp only [PyData.showable]; exact h.sh, by simp only [PyData.shown]; have := fmt_text (PyData.shownAll ds); have := h.sz; omega⟩
theorem RP.up {d : PyData} {n m : Nat} (h : RP d n) (l : n ≤ m) : RP d m := ⟨h.sh, Nat.le_trans h.sz l⟩
theorem Shows.of {d : PyData} {n : Nat} (h : Nice d 20) (r : RP d n) (l : n ≤ 1000000 := by decide) : Shows d := ⟨r.sh, h.nd, Nat.le_trans r.sz (sz_small (by omega)), Nat.le_trans h.dp (by decide)⟩
section
variable {ι : Type} {F : ι → Cx} {P : Program} {w : World} {K : PySem.W.Frag} {mg : Str → Option Value} {base : Heap} {N : List Str} {k : Nat} {sc : Scope} {W : Wd} {env : List Sl}
/-- a list whose items are not told exactly -/
theorem ev_lstN {es : List Expr} {pos} {Rs : List Sl → Prop} {R : Sl → Prop} (h : EvA F W K es env Rs) (hr : ∀ rs, Rs rs → ∃ ds : List PyData, rs = ds.map .dat ∧ ds.length ≤ 1000000 ∧ R (.dat (.list ds))) : Ev F W K (.List es pos) env R := by
  intro σ H i sd Q q
  refine ⟨tLst (WA F es), fun z => pe_lst (wa_pa z), ?_⟩
  refine h σ H i sd _ fun vs H1 rs x1 i1 d1 h1 => ?_
  obtain ⟨ds, rfl, hz, hR⟩ := hr rs h1
  have dn := dn_of_sd d1
  refine ⟨by rw [dn.length]; exact sz_small (by omega), fun p hp => ?_⟩
  obtain ⟨x2, i2, d2⟩ := new_lst i1 hp dn
  exact q _ _ _ (x1.trans x2) i2 d2.dv hR
/-- for tg in a tuple -/
theorem bd_forT (fm : Fam P w K mg base N k sc F) {tg a : Expr} {pos : Pos} {body rest : List Stmt} {Po : Post} {ds : List PyData} (Iv : Nat → List Sl → Prop) (ha : E1 F W K a env (.dat (.tuple ds))) (h0 : Iv 0 env)
    (hs : ∀ (i : Nat) d env1, ds[i]? = some d → Iv i env1 → ∃ env2, Tg F W K tg (.dat d) env1 env2 ∧ Bd F W K body env2 { Po with nx := Iv (i + 1), ct := Iv (i + 1), bk := fun e => Bd F W K rest e Po }) (hd : ∀ env1, Iv ds.length env1 → Bd F W K rest env1 Po)
    (hp : ∀ i, PassesOwn (model (F i).prog (F i).w) (F i).A (F i).env (F i).xe := by intro _; exact PassesOwn.never) (hf : ∀ i x, foldedSetIterable a (F i).env x = pure x := by intro _ _; rfl) : Bd F W K (.For tg a body [] pos :: rest) env Po := by
  intro σ H D ii sd g
  refine ⟨tSeq (tFor (iTup K (WE F a)) (WG F tg) (WS F body)) (WS F rest), fun z => pss_cons (ps_for (hp z) (fm.ca z) (by have := pi_tup (tg := tg) (we_pe (F := F) (e := a) z); rwa [fm.kk z] at this) (wg_pg z) (ws_ps z) (hf z)) (ws_ps z), ?_⟩
  refine ha σ H ii sd _ fun v H1 r x1 i1 d1 h1 => ?_
  subst h1
  obtain ⟨u, e, dn⟩ := d1
  cases e
  cases dn with
  | @tup ad xs _ la da =>
    refine ⟨ad, rfl, ⟨xs, la.sq⟩, for_tup (D := { D with nx := WS F rest D }) (fun i σ' H' => ∃ e, Wx W H1 H' ∧ W.I H' ∧ Sd W K H' σ' e ∧ Iv i e) ⟨env, Wx.refl W H1, i1, sd.mono x1, h0⟩ (fun i σ' H' _ ⟨e, x', _⟩ => (la.mono x').sq) ?_ ?_⟩
    · intro i x σ' H' hx ⟨e, x', i', s', iv⟩
      obtain ⟨d, hd2, dn⟩ := da.getV hx
      obtain ⟨env2, ht, hb⟩ := hs i d e hd2 iv
      refine ht x σ' H' i' s' (dn.mono x').dv _ fun σ2 H2 x2 i2 s2 => ?_
      refine hb σ2 H2 _ i2 s2 ⟨fun σ3 H3 e3 y j s3 h3 => ⟨e3, (x'.trans x2).trans y, j, s3, h3⟩, fun v H3 r y => g.rt v H3 r (x1.trans ((x'.trans x2).trans y)), fun σ3 H3 e3 y j s3 h3 => h3 σ3 H3 D j s3 (g.mono (x1.trans ((x'.trans x2).trans y))), fun σ3 H3 e3 y j s3 h3 => ⟨e3, (x'.trans x2).trans y, j, s3, h3⟩⟩
    · intro σ' H' ⟨e, x', i', s', iv⟩
      rw [da.length] at iv
      exact hd e iv σ' H' D i' s' (g.mono (x1.trans x'))

/-! ## tests that do not hold -/
theorem bd_ifF {c : Expr} {a rest : List Stmt} {pos : Pos} {Po : Post} (hc : T1 F W K c env false) (h : Bd F W K rest env Po) : Bd F W K (.If c a [] pos :: rest) env Po :=
  bd_if hc (fun e => absurd e (by decide)) fun _ => bd_nil h
theorem wf_one {a : Expr} {pos : Pos} (h : T1 F W K a env false) : EvW F W K (.BoolOp .Or [a] pos) env fun b => b = false := ew_or1 h
theorem wf_or {a b : Expr} {rest : List Expr} {pos : Pos} (h : T1 F W K a env false) (t : EvW F W K (.BoolOp .Or (b :: rest) pos) env fun b => b = false) : EvW F W K (.BoolOp .Or (a :: b :: rest) pos) env fun b => b = false :=
  ew_or h (fun _ => t) fun e => absurd e (by decide)
theorem ne_self {α : Type} [DecidableEq α] {x : α} : (!decide (x = x)) = false := by rw [decide_eq_true rfl] <;> rfl
mutual
theorem eqv_self : ∀ {d : PyData}, noDict d = true → PyData.eqv d d = true
  | .none, _ => by simp only [PyData.eqv]
  | .bool _, _ => by simp only [PyData.eqv, beq_self_eq_true]
  | .int _, _ => by simp only [PyData.eqv, beq_self_eq_true]
  | .str _, _ => by simp only [PyData.eqv, beq_self_eq_true]
  | .list xs, h => by
    simp only [PyData.eqv]
    exact eqv_selfs (by simpa only [noDict] using h)
  | .tuple xs, h => by
    simp only [PyData.eqv]
    exact eqv_selfs (by simpa only [noDict] using h)
  | .dict _, h => by simp [noDict] at h
theorem eqv_selfs : ∀ {ds : List PyData}, noDictAll ds = true → PyData.eqvAll ds ds = true
  | [], _ => by simp only [PyData.eqvAll]
  | d :: ds, h => by
    have h2 : noDict d = true ∧ noDictAll ds = true := by simpa [noDictAll] using h
    simp only [PyData.eqvAll, eqv_self h2.1, eqv_selfs h2.2, Bool.and_self]
end
theorem eqv_ne {d e : PyData} {n : Nat} (h : Nice d n) (z : d = e) : (!PyData.eqv d e) = false := by
  subst z
  rw [eqv_self h.nd] <;> rfl
theorem eqv_is {d e : PyData} {n : Nat} (h : Nice d n) (z : d = e) : PyData.eqv d e = true := by
  subst z
  exact eqv_self h.nd
end
end Cr

set_option Elab.async false
set_option linter.all false
set_option maxRecDepth 100000
set_option maxHeartbeats 4000000
namespace Cr
open PySem PySem.Spec PyProof.Rows L2
/-- what the head leaves of a def of the text -/
def DefF (K : PySem.W.Frag) (x : Str) (st : Stmt) : Prop := ∃ (f : Addr) (oc : Value) (od an : Option Addr) (sl : Array (Option Value)) (kV dc pm cd ct : Value),
  PySem.W.nsIn K mainGlobals x = some (some (.ref f)) ∧ K.lookup f = some ⟨oc, od, .func (PySem.W.fnOf x x (defArgs st) (defBody st) (defScope st) .none kV dc pm an cd ct), sl⟩ ∧ PySem.W.codeIn K cd x = true ∧ PySem.W.keepIn K (.ref f) = true
theorem dfn_mk {K : PySem.W.Frag} {x : Str} {st : Stmt} {f : Addr} {oc : Value} {od an : Option Addr} {sl : Array (Option Value)} {kV dc pm cd ct : Value}
    (a : PySem.W.nsIn K mainGlobals x = some (some (.ref f))) (l : K.lookup f = some ⟨oc, od, .func (PySem.W.fnOf x x (defArgs st) (defBody st) (defScope st) .none kV dc pm an cd ct), sl⟩) (c : PySem.W.codeIn K cd x = true) (k : PySem.W.keepIn K (.ref f) = true) : DefF K x st :=
  ⟨f, oc, od, an, sl, kV, dc, pm, cd, ct, a, l, c, k⟩
def BindsB (x : Str) (st : Stmt) (ps : List Str) : Prop := ∀ (kV doc pm : Value) (an : Option Addr) (cdv ct : Value) (us : List Value), us.length = ps.length → bindArgs (PySem.W.fnOf x x (defArgs st) (defBody st) (defScope st) .none kV doc pm an cdv ct) ⟨us, []⟩ = pure (ps.zip us)
theorem own_mk {P : Program} {w : World} {K : PySem.W.Frag} {mg : Str → Option Value} {base h : Heap} {x : Str} {st : Stmt} {j : Nat} {ps : List Str} {sp : Sp} (X : K.In h) (G : h.Ns mainGlobals mg) (d : DefF K x st) (hb : BindsB x st ps)
    (ok : ∀ f fd, Fun K x x st f fd → FnG P w K mg base j f fd ps sp) : Own P w K mg base x j ps sp := by
  obtain ⟨f, oc, od, an, sl, kV, dc, pm, cd, ct, a, l, c, k⟩ := d
  have Fu := fun_mk (st := st) l c k
  exact ⟨f, _, PySem.W.mg_of X G a, k, Fu.binds hb, ok f _ Fu⟩
theorem law_mk {P : Program} {w : World} {K : PySem.W.Frag} {mg : Str → Option Value} {h : Heap} {fa : Addr} {st : Stmt} {j : Nat} {sp : Sp} (X : K.In h) (G : h.Ns mainGlobals mg) (hfa : mg "law" = some (.ref fa)) (d : DefF K "law" st) (hd : (defArgs st).defaults = []) (hb : ∀ (kV doc pm : Value) (an : Option Addr) (cdv ct v : Value), bindArgs (PySem.W.fnOf "law" "law" (defArgs st) (defBody st) (defScope st) .none kV doc pm an cdv ct) ⟨[v], []⟩ = pure [(("script" : Str), v)])
    (ok : ∀ (base : Heap), K.In base → base.Ns mainGlobals mg → ∀ f fd, Fun K "law" "law" st f fd → FnG P w K mg base j f fd ["script"] sp) :
    ∃ fd : FuncData, (∀ (s : Shared) (u : Value), BindsTo s fd ⟨[u], []⟩ [("script", u)]) ∧ ∀ base : Heap, K.In base → base.Ns mainGlobals mg → FnG P w K mg base j fa fd ["script"] sp := by
  obtain ⟨f, oc, od, an, sl, kV, dc, pm, cd, ct, a, l, c, k⟩ := d
  have e := hfa.symm.trans (PySem.W.mg_of X G a)
  cases e
  exact ⟨_, fun s u => .of_eq (hb _ _ _ _ _ _ _), fun base b1 b2 => ok base b1 b2 fa _ (fun_mk (st := st) l c k)⟩
end Cr

set_option Elab.async false
set_option linter.all false
set_option maxRecDepth 100000
set_option maxHeartbeats 4000000
namespace Cr
open PySem PySem.Spec PyProof.Rows L2
open PySem.MeetsSeq

/-! ## the law's own call where the table of the modules is known to stand -/
section
variable {P : Program} {w : World} {K : PySem.W.Frag} {mg mb : Str → Option Value} {k : Nat} {fa a : Addr} {fd : FuncData} {x : Str} {sp : Sp} {s₁ : Shared} {vs : List Value} {ns : List Int}
theorem lawS (kin : K.In s₁.heap) (hns : s₁.heap.Ns mainGlobals mg) (hb : s₁.heap.Ns builtinsNs mb) (hbb : ∀ x : Str, x ≠ "__name__" → mb x = bootBuiltins x) (nolim : s₁.heap.NoLimit) (sm : ∃ mm, s₁.heap.Ns sysModules mm) (ng : s₁.gens = #[])
    (ha : s₁.heap.get? a = some { cls := .type "list", data := .seq vs.toArray }) (intsOk : IntsAre vs ns) (short : ns.length ≤ sizeLine) (hr : Room k callerA)
    (F : ∀ base : Heap, K.In base → base.Ns mainGlobals mg → (base.get? sysModules).isSome = true → FnG P w K mg base k fa fd [x] sp) (binds : ∀ (s : Shared) (u : Value), BindsTo s fd ⟨[u], []⟩ [(x, u)])
    (hsp : ∀ H : Hp, Only H → SqL K H a (ns.map V.int) → sp [.ref a] H (fun v _ => v = .bl true) fun _ _ _ => False) :
    codeAny (model P w) callerA (.call (.ref fa) ⟨[.ref a], []⟩) (LawEnd s₁) s₁ := by
  have rel := vals_ints intsOk
  have ll := intsOk.length
  -- the promise, from a heap that knows the script at most
  have main : ∀ H : Hp, Only H → SqL K H a (ns.map V.int) → HOk P w H s₁.heap → (∀ b, H b ≠ none → b = a ∧ K.lookup a = none) → codeAny (model P w) callerA (.call (.ref fa) ⟨[.ref a], []⟩) (LawEnd s₁) s₁ := by
    intro H only sq ok atA
    have isA : ∀ {b : Addr} {u : HO}, H b = some u → b = a ∧ K.lookup a = none := fun {b u} z => atA b (by rw [z]; exact fun c => nomatch c)
    have hid : ∀ {b : Addr} {m : Str → Option Value}, s₁.heap.Ns b m → (hidT s₁.heap H).Ns b m := by
      rintro b m ⟨o, es, ep, z, d, rr⟩
      refine ⟨o, es, ep, hidT_get z ?_, d, rr⟩
      match hq : H b with
      | none => rfl
      | some u =>
        have hba := (isA hq).1
        rw [hba, ha] at z
        cases z
        exact absurd (show Data.seq vs.toArray _ = Data.dict es ep from d) (fun c => nomatch c)
    have kin' : K.In (hidT s₁.heap H) := by
      intro b o z
      refine hidT_get (kin b o z) ?_
      match hq : H b with
      | none => rfl
      | some u =>
        obtain ⟨e1, e2⟩ := isA hq
        rw [e1, e2] at z
        cases z
    have md : Mod K mg (hidT s₁.heap H) := by
      obtain ⟨mc, l1, l2⟩ := nolim
      exact ⟨kin', hid hns, ⟨mb, hid hb, hbb⟩, ⟨mc, hid l1, l2⟩⟩
    have env0 : Env0 P w K mg (hidT s₁.heap H) callerA [] s₁ H :=
      ⟨rfl, md, fun b o z => of_hidT z, Nat.le_of_eq (hidT_size _ _), trivial, (fun b z => nomatch (show b ∈ ([] : List Addr) from z)), ok, .of_eq ng⟩
    refine codeAny_mono ((F _ kin' (hid hns) (by obtain ⟨mm, hm⟩ := sm; obtain ⟨o, _, _, e, _⟩ := hid hm; rw [e]; rfl)).run callerA [] s₁ H ⟨[.ref a], []⟩ [.ref a] [.ref a] _ _ rfl hr env0 (binds s₁ (.ref a)) (.cons rfl .nil) (hsp H only sq)) ?_
    intro res s' hres
    match res, hres with
    | .ok (.ret u), ⟨v, H', os', bare', un', ok', rv, isT⟩ =>
      cases (show v = .bl true from isT)
      cases (show u = Value.bool true from rv)
      refine ⟨rfl, OldK.of_keep ?_, os', bare'⟩
      intro b o z
      match hq : H b with
      | none => exact un'.keep b o z hq (fun c => nomatch (show b ∈ ([] : List Addr) from c)) (fun c => nomatch c)
      | some u =>
        rcases only b with c | ⟨ob, xs, c⟩
        · rw [hq] at c
          cases c
        · have now := (ok' b _ (un'.frzs b ob _ c)).1
          have was := (ok b _ c).1
          rw [z] at was
          cases was
          exact now
  by_cases hk : K.lookup a = none
  · let H₀ : Hp := fun b => if b = a then some (.frz { cls := .type "list", data := .seq vs.toArray } (.lst (ns.map V.int))) else none
    have at0 : ∀ {b u}, H₀ b = some u → b = a ∧ u = .frz { cls := .type "list", data := .seq vs.toArray } (.lst (ns.map V.int)) := by
      intro b u z
      by_cases c : b = a
      · exact ⟨c, (Option.some.inj ((if_pos c).symm.trans z)).symm⟩
      · exact nomatch (if_neg c).symm.trans z
    refine main H₀ (fun b => ?_) (Or.inl (Or.inr ⟨_, if_pos rfl⟩)) (fun b u z => ?_) (fun b z => ?_)
    · by_cases c : b = a
      · exact Or.inr ⟨_, _, if_pos c⟩
      · exact Or.inl (if_neg c)
    · obtain ⟨e1, e2⟩ := at0 z
      rw [e1, e2]
      exact ⟨ha, by rw [List.length_map]; exact short, vs, _, rel, ha⟩
    · match hq : H₀ b with
      | none => exact absurd hq z
      | some u => exact ⟨(at0 hq).1, hk⟩
  · obtain ⟨o, ho⟩ := Option.ne_none_iff_exists'.mp hk
    have z := kin a o ho
    rw [ha] at z
    cases z
    exact main (fun _ => none) (fun _ => Or.inl rfl) (Or.inr ⟨_, vs.toArray, _, ho, rfl, rfl, rfl, by rw [List.size_toArray, ll]; exact short, by simpa using rel⟩)
      (fun b u c => nomatch (show (none : Option HO) = some u from c)) (fun b c => absurd rfl c)
end
theorem walkS {l : PySem.W.OpenLaw} {n k : Nat} {q : Program} {loose : List Str} {XP : (Str → Option Value) → Heap → Prop} {YP : World → Heap → Prop} {d : DefRec} {K : Params → PySem.W.Frag} {sp : PySem.W.Frag → Sp} {x : Str}
    (most : l.most = some n) (most' : n ≤ sizeLine) (nodef : d.params.defaults = []) (room : Room k callerA) (imp : PyProof.Rows.importsNone q = true) (kin : ∀ (w : World) (h : Heap), YP w h → (K w.params).In h)
    (F : ∀ (w : World) (mg : Str → Option Value) (fa : Addr) (h : Heap), (K w.params).In h → h.Ns mainGlobals mg → mg d.name = some (.ref fa) →
      ∃ fd : FuncData, (∀ (s : Shared) (u : Value), BindsTo s fd ⟨[u], []⟩ [(x, u)]) ∧ ∀ base : Heap, (K w.params).In base → base.Ns mainGlobals mg → (base.get? sysModules).isSome = true → FnG l.prog w (K w.params) mg base k fa fd [x] (sp (K w.params)))
    (hsp : ∀ (K : PySem.W.Frag) (H : Hp) (a : Addr) (ns : List Int), ns.length ≤ n → Only H → SqL K H a (ns.map V.int) → sp K [.ref a] H (fun v _ => v = .bl true) fun _ _ _ => False) :
    PySem.W.WalkO q loose XP YP l.row.toRowW d [] (fun f vs => PySem.call f vs) := by
  refine Att.attach_call most nodef ?_
  intro w s₀ s₁ mg mb fa o pm cd doc a vs ns G Y ho hd hcd hmg hobj hints hlen hg
  have kk := kin w _ Y
  obtain ⟨fd, bb, FF⟩ := F w mg fa _ kk G.T.g hmg
  exact lawS kk G.T.g G.T.b G.T.builtins G.T.nolimit (let ⟨mm, e, _⟩ := (G.T.seer imp).mods; ⟨mm, e⟩) hg hobj hints (Nat.le_trans hlen most') room FF bb (fun H only sq => hsp _ H a ns hlen only sq)
theorem law_mkS {P : Program} {w : World} {K : PySem.W.Frag} {mg : Str → Option Value} {h : Heap} {fa : Addr} {st : Stmt} {j : Nat} {sp : Sp} (X : K.In h) (G : h.Ns mainGlobals mg) (hfa : mg "law" = some (.ref fa)) (d : DefF K "law" st) (hd : (defArgs st).defaults = []) (hb : ∀ (kV doc pm : Value) (an : Option Addr) (cdv ct v : Value), bindArgs (PySem.W.fnOf "law" "law" (defArgs st) (defBody st) (defScope st) .none kV doc pm an cdv ct) ⟨[v], []⟩ = pure [(("script" : Str), v)])
    (ok : ∀ (base : Heap), K.In base → base.Ns mainGlobals mg → (base.get? sysModules).isSome = true → ∀ f fd, Fun K "law" "law" st f fd → FnG P w K mg base j f fd ["script"] sp) :
    ∃ fd : FuncData, (∀ (s : Shared) (u : Value), BindsTo s fd ⟨[u], []⟩ [("script", u)]) ∧ ∀ base : Heap, K.In base → base.Ns mainGlobals mg → (base.get? sysModules).isSome = true → FnG P w K mg base j fa fd ["script"] sp := by
  obtain ⟨f, oc, od, an, sl, kV, dc, pm, cd, ct, a, l, c, k⟩ := d
  have e := hfa.symm.trans (PySem.W.mg_of X G a)
  cases e
  exact ⟨_, fun s u => .of_eq (hb _ _ _ _ _ _ _), fun base b1 b2 b3 => ok base b1 b2 b3 fa _ (fun_mk (st := st) l c k)⟩
/-! ## a text against a dict -/
theorem dict_eq_declines_str (l : Addr) (o : Obj) (b : Str) (u : Tok) :
    Meets (Builtin.«dict.__eq__» ⟨[.ref l, .str b u], []⟩) (fun _ R s => (s.heap.get? l = some o ∧ o.cls = .type "dict") ∧ R (.ok (.ret .notImplemented)) s) :=
  .of_wp fun prog w A R s h => by
    obtain ⟨⟨hl, hc⟩, h⟩ := h
    show wpAny _ _ (Builtin.Dict.dictSlotArgs "__eq__" ⟨[.ref l, .str b u], []⟩ >>= _) _ _ s
    refine wpAny_bind ?_
    unfold Builtin.Dict.dictSlotArgs
    refine wpAny_bind (wpAny_notOrdered_dict (show s.TypeIs (.ref l) "dict" from ⟨o, hl, hc⟩) ?_)
    show wpAny _ _ (pure (Value.ref l, Value.str b u)) _ _ s
    refine wpAny_pure ?_
    refine wpAny_bind (wpAny_isInstance (T := "str") (typeIs_str s b u) PySem.F.sub_str_dict ?_)
    simp only [Bool.not_false, if_true]
    wp_walk
    exact ⟨_, rfl, h⟩
theorem str_eq_declines_obj (b : Str) (u : Tok) (l : Addr) (o : Obj) :
    Meets (Builtin.«str.__eq__» ⟨[.str b u, .ref l], []⟩) (fun _ R s => (s.heap.get? l = some o ∧ o.cls = .type "dict" ∧ ∃ es n, o.data = .dict es n) ∧ R (.ok (.ret .notImplemented)) s) :=
  .of_wp fun prog w A R s h => by
    obtain ⟨oc, od, dt, sl⟩ := o
    obtain ⟨hp, g, d, tk, os⟩ := s
    obtain ⟨⟨hl, hc, es, n, hd⟩, h⟩ := h
    simp only at hc hd
    subst hc hd
    have f1 := PySem.F.sub_dict_str
    wp_walk using PySem.AutoSeq1.wpAny_loadPart' hl, wpAny_load hl
    exact ⟨_, rfl, h⟩
section
variable {A : Around} {s : Shared}
theorem rc_str_dict {l : Addr} {o : Obj} (b : Str) (u : Tok) (hl : s.heap.get? l = some o) (hc : o.cls = .type "dict") (hd : ∃ es n, o.data = .dict es n) (hu : A.units < cLine) : SeqAt.RcAt A s (.str b u) (.ref l) false := fun prog w E Q h =>
  SeqAt.rc_eq_decline_or (k := false) (typeIs_str s b u) (show s.TypeIs (.ref l) "dict" from ⟨o, hl, hc⟩) (by decide) PySem.F.sub_dict_str PySem.F.slot_str_eq PySem.F.slot_dict_eq_refl
    (fun _ hq => call_meets PySem.F.slot_str_eq (typeIs_str s b u) PySem.F.entry_str_eq (PySem.F.args_str_eq_2 _ _) (str_eq_declines_obj b u l o) ⟨⟨hl, hc, hd⟩, hq⟩)
    (fun _ hq => call_meets PySem.F.slot_dict_eq_refl ⟨o, hl, hc⟩ PySem.F.entry_dict_eq (PySem.F.args_dict_eq_2 _ _) (dict_eq_declines_str l o b u) ⟨⟨hl, hc⟩, hq⟩)
    (fun _ hq => wpAny_of_eq (rfl : isSame (.str b u) (.ref l) = pure false) hq) (.inr hu) h
theorem eqAt_str_dict {l : Addr} {o : Obj} (b : Str) (u : Tok) (hl : s.heap.get? l = some o) (hc : o.cls = .type "dict") (hd : ∃ es n, o.data = .dict es n) (hu : A.units < cLine) : SeqAt.EqAt A s (.str b u) (.ref l) false := fun prog w E Q h => by
  unfold eqBool
  refine wpAny_holding ?_
  refine wpAny_ite_split (fun hab => absurd (eq_of_beq hab) nofun) (fun _ => ?_)
  exact wpAny_bind (rc_str_dict b u hl hc hd hu prog w E _ (wpAny_truthy_bool h))
end
/-- whether a text stands among texts, asked of any data -/
def strIn (x : PyData) (ss : List Str) : Bool := match x with
  | .str z => ss.any (· == z)
  | _ => false
def txtEq (b : Str) : PyData → Bool
  | .str z => b == z
  | _ => false
theorem eqAt_str {A : Around} {s : Shared} (b : Str) (u : Tok) {x : Value} {d : PyData} {as : List Addr} (r : Reads s.heap x d as) (hu : A.units < cLine) : SeqAt.EqAt A s (.str b u) x (txtEq b d) := by
  cases r with
  | none => exact SeqAt.EqAt.str_none b u
  | bool y => exact SeqAt.EqAt.str_bool b u y
  | int y v => exact SeqAt.EqAt.str_int b u y v
  | str y v => exact SeqAt.EqAt.str_str b u y v
  | list k1 k2 k3 k4 => exact SeqAt.EqAt.str_list b u ⟨_, k1, k2, _, k3⟩ hu
  | tuple k1 k2 k3 k4 => exact SeqAt.EqAt.str_tuple b u ⟨_, k1, k2, _, k3⟩ hu
  | dict k1 k2 k3 k4 k5 => exact eqAt_str_dict b u k1 k2 ⟨_, _, k3⟩ hu
/-! ## what is data with empty dicts only -/
mutual
def okD : PyData → Bool
  | .none | .bool _ | .int _ | .str _ => true
  | .list xs | .tuple xs => okDAll xs
  | .dict es => okKv es
def okDAll : List PyData → Bool
  | [] => true
  | x :: xs => okD x && okDAll xs
def okKv : List (PyData × PyData) → Bool
  | [] => true
  | (_, d) :: r => okD d && okKv r
end
theorem okDAll_iff : ∀ {xs : List PyData}, okDAll xs = true ↔ ∀ x ∈ xs, okD x = true
  | [] => by simp [okDAll]
  | x :: xs => by simp [okDAll, okDAll_iff (xs := xs)]
theorem sys_here {X : Cx} {pins : List (Addr × Obj)} {σ : L2.St} {H : Hp} {s : Shared} (hs : (X.base.get? sysModules).isSome = true) (I : Inv X pins σ H s) {a : Addr} {o : HO} (e : H a = some o) : a ≠ sysModules := by
  intro z
  subst z
  obtain ⟨ob, h3⟩ := Option.isSome_iff_exists.mp hs
  have := (I.bs _ _ h3).2
  rw [this] at e
  exact nomatch e
section
variable {X : Cx} {pins : List (Addr × Obj)} {σ : L2.St} {H : Hp} {s : Shared} {W : Wd}
mutual
theorem Dn.reads (hs : (X.base.get? sysModules).isSome = true) (I : Inv X pins σ H s) : ∀ (d : PyData) (v : V) (u : Value), Dn W X.K H v d → okD d = true → RelV v u → ∃ as, Reads s.heap u d as ∧ sysModules ∉ as
  | .none, _, _, h, _, r => by
    cases h
    cases r
    exact ⟨_, Reads.none, List.not_mem_nil⟩
  | .bool b, _, _, h, _, r => by
    cases h
    cases r
    exact ⟨_, Reads.bool b, List.not_mem_nil⟩
  | .int i, _, _, h, _, r => by
    cases h
    obtain ⟨t, rfl⟩ := r
    exact ⟨_, Reads.int i t, List.not_mem_nil⟩
  | .str x, _, _, h, _, r => by
    cases h
    obtain ⟨t, rfl⟩ := r
    exact ⟨_, Reads.str x t, List.not_mem_nil⟩
  | .list ds, _, _, h, k, r => by
    cases h with
    | lst hl ha =>
      cases r
      obtain ⟨its, rv, ⟨o, n, ho, hc, _, hd⟩, _⟩ := I.list hl.sq
      obtain ⟨as, hr, hn⟩ := DnAll.reads hs I ds _ its ha (by simpa [okD] using k) rv
      refine ⟨_, Reads.list ho hc hd hr, ?_⟩
      intro hm
      rcases List.mem_cons.mp hm with e | e
      · exact sys_here hs I hl.2 e.symm
      · exact hn e
  | .tuple ds, _, _, h, k, r => by
    cases h with
    | tup hl ha =>
      cases r
      obtain ⟨its, rv, ⟨o, ho, hc, n, hd⟩, _⟩ := I.tuple hl.sq
      obtain ⟨as, hr, hn⟩ := DnAll.reads hs I ds _ its ha (by simpa [okD] using k) rv
      exact ⟨_, Reads.tuple ho hc hd hr, hn⟩
  | .dict es, _, _, h, k, r => by
    cases h with
    | dct n ha hk =>
      cases r
      obtain ⟨_, _, vs, rel, dd⟩ := dk_of I.hok ha
      obtain ⟨o, es', ep, h1, h2, h3, _, h4, _⟩ := dd
      obtain ⟨as, bs, q1, q2, n1, n2⟩ := DnKv.reads hs I es _ vs es'.toList hk (by simpa [okD] using k) rel h4
      exact ⟨_, Reads.dict h1 h2.1 h3 q1 q2, by
        intro hm
        rcases List.mem_append.mp hm with e | e
        · rcases List.mem_cons.mp e with e | e
          · exact sys_here hs I ha e.symm
          · exact n1 e
        · exact n2 e⟩
theorem DnAll.reads (hs : (X.base.get? sysModules).isSome = true) (I : Inv X pins σ H s) : ∀ (ds : List PyData) (vs : List V) (us : List Value), DnAll W X.K H vs ds → okDAll ds = true → Vals vs us → ∃ as, ReadsAll s.heap us ds as ∧ sysModules ∉ as
  | [], _, _, h, _, r => by
    cases h
    cases r
    exact ⟨_, ReadsAll.nil, List.not_mem_nil⟩
  | d :: ds, _, _, h, k, r => by
    have k2 : okD d = true ∧ okDAll ds = true := by simpa [okDAll] using k
    cases h with
    | cons h1 h2 =>
      cases r with
      | cons r1 r2 =>
        obtain ⟨as, q1, n1⟩ := Dn.reads hs I d _ _ h1 k2.1 r1
        obtain ⟨bs, q2, n2⟩ := DnAll.reads hs I ds _ _ h2 k2.2 r2
        exact ⟨_, ReadsAll.cons q1 q2, fun hm => (List.mem_append.mp hm).elim n1 n2⟩
theorem DnKv.reads (hs : (X.base.get? sysModules).isSome = true) (I : Inv X pins σ H s) : ∀ (es : List (PyData × PyData)) (kvs : List (Key × V)) (vs : List (Key × Value)) (l : List DictEntry), DnKv W X.K H kvs es → okKv es = true → KV kvs vs → PySem.Pairs (mixKind X.prog X.w) l vs →
    ∃ as bs, ReadsAll s.heap (l.map (·.key)) (es.map (·.1)) as ∧ ReadsAll s.heap (l.map (·.val)) (es.map (·.2)) bs ∧ sysModules ∉ as ∧ sysModules ∉ bs
  | [], _, _, _, h, _, r, p => by
    cases h
    cases r
    cases p
    exact ⟨[], [], .nil, .nil, List.not_mem_nil, List.not_mem_nil⟩
  | (_, d) :: es, _, _, _, h, k, r, p => by
    have k2 : okD d = true ∧ okKv es = true := by simpa [okKv] using k
    cases h with
    | @cons key v kvs d es h1 h2 =>
      cases r with
      | cons r1 r2 =>
        obtain ⟨e1, rv⟩ := r1
        cases p with
        | cons p1 p2 p3 =>
          obtain ⟨as, q1, n1⟩ := Dn.reads hs I d _ _ h1 k2.1 rv
          obtain ⟨as2, bs2, qa, qb, na, nb⟩ := DnKv.reads hs I es _ _ _ h2 k2.2 r2 p3
          have rk : ∀ u, keyIs key u = true → Reads s.heap u (keyD key) [] := fun u hu => by
            cases key with
            | inl i =>
              cases u <;> first | exact absurd hu Bool.false_ne_true | skip
              rename_i j t
              have e : j = i := by simpa [keyIs, Value.isInt] using hu
              subst e
              exact Reads.int _ t
            | inr x =>
              cases u <;> first | exact absurd hu Bool.false_ne_true | skip
              rename_i y t
              have e : y = x := by simpa [keyIs, Value.isStrOf] using hu
              subst e
              exact Reads.str _ t
          have rk2 := rk _ (by rw [← e1] at p1; exact p1)
          rw [← p2] at q1
          refine ⟨_, _, ReadsAll.cons rk2 qa, ReadsAll.cons q1 qb, fun hm => ?_, fun hm => (List.mem_append.mp hm).elim n1 nb⟩
          exact (List.mem_append.mp hm).elim (fun z => nomatch z) na
end
end
end Cr

set_option Elab.async false
set_option linter.all false
set_option maxRecDepth 100000
set_option maxHeartbeats 4000000
namespace Cr
open PySem PySem.Spec PyProof.Rows L2
/-! ## x in a tuple of texts, for any data x -/
theorem okD_strs (ss : List Str) : okD (.tuple (ss.map .str)) = true := by
  show okDAll _ = true
  refine okDAll_iff.mpr fun x hx => ?_
  obtain ⟨z, _, rfl⟩ := List.mem_map.mp hx
  rfl
theorem strs_reads {h : Heap} : ∀ {ss : List Str} {its : List Value} {as : List Addr}, ReadsAll h its (ss.map .str) as → ∀ y ∈ its, ∃ b u, y = .str b u
  | [], _, _, r, y, hy => by
    cases r
    exact nomatch hy
  | s :: ss, _, _, r, y, hy => by
    cases r with
    | cons r1 r2 =>
      rcases List.mem_cons.mp hy with e | e
      · cases r1
        exact ⟨_, _, e⟩
      · exact strs_reads r2 y e
def valEq (d : PyData) : Value → Bool
  | .str b _ => txtEq b d
  | _ => false
theorem any_strs {h : Heap} {d : PyData} : ∀ {ss : List Str} {its : List Value} {as : List Addr}, ReadsAll h its (ss.map .str) as → its.any (valEq d) = strIn d ss
  | [], _, _, r => by
    cases r
    cases d <;> rfl
  | s :: ss, _, _, r => by
    cases r with
    | cons r1 r2 =>
      cases r1
      rw [List.any_cons, any_strs r2]
      cases d <;> rfl
section
variable {X : Cx} {W : Wd}
def rInS (W : Wd) (K : PySem.W.Frag) (neg : Bool) : R2 := fun x y H Q => ∃ d ss, Dn W K H x d ∧ okD d = true ∧ Dn W K H y (.tuple (ss.map .str)) ∧ Q (.bl (neg != strIn d ss)) H
theorem op_inSt (hs : (X.base.get? sysModules).isSome = true) (hu : X.A.units + 1 < cLine) : OpR X (compareOp .In) (rInS W X.K false) := by
  intro pins s σ H x y v u Q I rx ry h
  obtain ⟨d, ss, hd, kd, he, q⟩ := h
  obtain ⟨as, r1, _⟩ := Dn.reads hs I d x v hd kd rx
  obtain ⟨bs, r2, _⟩ := Dn.reads hs I _ y u he (okD_strs ss) ry
  cases r2 with
  | @tuple a o vs n _ bs k1 k2 k3 k4 =>
    refine SeqAt.in_tupleAt (valEq d) ⟨_, k1, k2, _, k3⟩ (fun y hy => ?_) ?_
    · obtain ⟨b, u, rfl⟩ := strs_reads k4 y (by simpa using hy)
      exact eqAt_str b u r1 hu
    · rw [← Array.any_toList, any_strs k4]
      exact ⟨.bl _, H, I, rfl, by simpa using q⟩
theorem op_notInSt (hs : (X.base.get? sysModules).isSome = true) (hu : X.A.units + 1 < cLine) : OpR X (compareOp .NotIn) (rInS W X.K true) := by
  intro pins s σ H x y v u Q I rx ry h
  obtain ⟨d, ss, hd, kd, he, q⟩ := h
  obtain ⟨as, r1, _⟩ := Dn.reads hs I d x v hd kd rx
  obtain ⟨bs, r2, _⟩ := Dn.reads hs I _ y u he (okD_strs ss) ry
  cases r2 with
  | @tuple a o vs n _ bs k1 k2 k3 k4 =>
    refine SeqAt.notIn_tupleAt (valEq d) ⟨_, k1, k2, _, k3⟩ (fun y hy => ?_) ?_
    · obtain ⟨b, u, rfl⟩ := strs_reads k4 y (by simpa using hy)
      exact eqAt_str b u r1 hu
    · rw [← Array.any_toList, any_strs k4]
      exact ⟨.bl _, H, I, rfl, by simpa using q⟩
end
section
variable {ι : Type} {F : ι → Cx} {P : Program} {w : World} {K : PySem.W.Frag} {mg : Str → Option Value} {base : Heap} {N : List Str} {k : Nat} {sc : Scope} {W : Wd} {env : List Sl}
theorem b_inSt (fm : Fam P w K mg base N k sc F) (hs : (base.get? sysModules).isSome = true) {d : PyData} {ss : List Str} (kd : okD d = true) : B1 F W K (compareOp .In) d (.tuple (ss.map .str)) (.bool (strIn d ss)) := by
  intro H vx vy ii nx ny Q q
  exact ⟨rInS W K false, fun z => by have := op_inSt (X := F z) (W := W) (by rw [fm.ba z]; exact hs) (by have := (fm.ro z).units; omega); rwa [fm.kk z] at this, d, ss, nx, kd, ny, by simpa using q _ H _ (Wx.refl W H) ii (Dn.dv (.bl _)) rfl⟩
theorem b_notInSt (fm : Fam P w K mg base N k sc F) (hs : (base.get? sysModules).isSome = true) {d : PyData} {ss : List Str} (kd : okD d = true) : B1 F W K (compareOp .NotIn) d (.tuple (ss.map .str)) (.bool (!strIn d ss)) := by
  intro H vx vy ii nx ny Q q
  exact ⟨rInS W K true, fun z => by have := op_notInSt (X := F z) (W := W) (by rw [fm.ba z]; exact hs) (by have := (fm.ro z).units; omega); rwa [fm.kk z] at this, d, ss, nx, kd, ny, by simpa using q _ H _ (Wx.refl W H) ii (Dn.dv (.bl _)) rfl⟩
/-! ## isinstance(x, T) for data x -/
def tyD : PyData → String
  | .none => "NoneType"
  | .bool _ => "bool"
  | .int _ => "int"
  | .str _ => "str"
  | .list _ => "list"
  | .tuple _ => "tuple"
  | .dict _ => "dict"
def isaD (T : String) (d : PyData) : Bool := tyD d == T || (T == "int" && tyD d == "bool")
theorem tyx_of {H : Hp} {v : V} {d : PyData} (h : Dn W K H v d) : TyX K H v (.type (tyD d)) := by
  cases h with
  | non => exact .base .non
  | bl b => exact .base (.bl b)
  | int i => exact .base (.int i)
  | str x => exact .base (.str x)
  | lst a r => exact .base (.lst a.2)
  | tup a r =>
    rcases a with a | a
    · exact .base (.tup a.2)
    · rcases a with c | ⟨o, its, n, l, c, _⟩
      · exact (rd_none c).elim
      · exact .kTuple l c
  | dct n a r => exact .base (.dK a)
def kitS (t T : String) : Option Bool := if (Value.type t == Value.type T) = true then some true else if PySem.W.kitMeta T = true then (fastBuiltinMro t).map (·.contains (.type T)) else none
theorem kit_is {K : PySem.W.Frag} {t T : String} : PySem.W.kitOne K (.type t) (.type T) = kitS t T := rfl
def KitT (T : String) : Prop := ∀ t ∈ ["NoneType", "bool", "int", "str", "list", "tuple", "dict"], kitS t T = some (t == T || (T == "int" && t == "bool"))
theorem KitT.of {K : PySem.W.Frag} {T : String} (h : KitT T) (d : PyData) : PySem.W.kitOne K (.type (tyD d)) (.type T) = some (isaD T d) := by
  rw [kit_is]
  exact h (tyD d) (by cases d <;> simp [tyD])
theorem kit_int : KitT "int" := by unfold KitT; decide +kernel
theorem kit_bool : KitT "bool" := by unfold KitT; decide +kernel
theorem kit_str : KitT "str" := by unfold KitT; decide +kernel
theorem kit_tuple : KitT "tuple" := by unfold KitT; decide +kernel
theorem kit_list : KitT "list" := by unfold KitT; decide +kernel
/-- isinstance(e, T) -/
theorem ev_isi (fm : Fam P w K mg base N k sc F) {e : Expr} {p p2 pos : Pos} {x : Str} {T : String} {d : PyData} (he : E1 F W K e env (.dat d)) (hm : mg "isinstance" = none) (hmT : mg x = none) (hT : KitT T) (hv : bootBuiltins x = some (.type T) := by decide +kernel)
    (hg : glB sc "isinstance" = true := by decide +kernel) (hgT : glB sc x = true := by decide +kernel) (hn : x ≠ "__name__" := by decide) (hdb : (x == ("__debug__" : Str)) = false := by decide)
    (st : ∀ i, starEach (e :: [.Name x p2]) (F i).env = (false, eval e (F i).env) :: starEach [.Name x p2] (F i).env := by intro _; rfl) (pl : ∀ i, (backTo pos (starEach [.Name x p2] (F i).env)).any (·.1) = false := by intro _; rfl) :
    E1 F W K (.Call (.Name "isinstance" p) [e, .Name x p2] [] pos) env (.dat (.bool (isaD T d))) := by
  intro σ H i sd Q q
  refine ⟨tCB (WC F (.builtin "isinstance")) (tCons (WE F e) (tCons (tC (.ty T)) tNil)), fun z => pe_callB (wc_call z) (gl_of (fm.es z) hg) (by rw [fm.mg z]; exact hm) (by decide +kernel) (pa_cons (we_pe z) (pa_cons (pe_bltn (gl_of (fm.es z) hgT) (by rw [fm.mg z]; exact hmT) hv rfl hn hdb) pa_nil (by rfl)) (st z)) (by decide) (by decide) (st z) (pl z), ?_⟩
  refine he σ H i sd _ fun v H1 r x1 i1 d1 h1 => ?_
  subst h1
  obtain ⟨u, z, n1⟩ := d1
  cases z
  exact ⟨rIsi K, fun z => by have := call_isi (X := F z); rwa [fm.kk z] at this, _, .ty T, _, .type T, _, rfl, .ty T, tyx_of n1, hT.of d, q _ H1 _ x1 i1 (Dn.dv (.bl _)) rfl⟩
/-- {} -/
theorem ev_dct0 (fm : Fam P w K mg base N k sc F) {pos : Pos} : E1 F W K (.Dict [] [] pos) env (.dat (.dict [])) := by
  intro σ H i sd Q q
  refine ⟨_, fun z => pe_dnewK, fun p hp => ?_⟩
  obtain ⟨np, xp, ip⟩ := W.new (o := .dK []) i hp
  exact q _ _ _ xp ip (Dn.dv (.dct np upd_same .nil)) rfl
/-- repr of data with empty dicts -/
def rRpO (W : Wd) (K : PySem.W.Frag) : List V → Hp → VK → Prop := fun xs H Q => ∃ v d, xs = [v] ∧ Dn W K H v d ∧ okD d = true ∧ d.showable = true ∧ d.shown.length ≤ sizeLine ∧ d.depth ≤ 60 ∧ Q (.str d.shown) H
theorem call_rpO {X : Cx} (hs : (X.base.get? sysModules).isSome = true) (hu : X.A.units + 64 < cLine) (hg : X.A.guards = some []) : CallR X (.builtin "repr") (rRpO W X.K) := by
  intro pins s σ H xs us Q I r h
  obtain ⟨v, d, rfl, dn, ok, sh, hz, hd, q⟩ := h
  obtain ⟨u, rfl, rv⟩ := vals1 r
  obtain ⟨as, rd, ns⟩ := Dn.reads hs I d v u dn ok rv
  have fin : ∀ (t : Tok) (n : Nat), EP X pins σ Q (.str d.shown t) { s with toks := n } := fun t n => ⟨.str _, H, I.tok _, ⟨t, rfl⟩, q⟩
  cases dn with
  | non =>
    cases rv
    exact PySem.P.repr_of_none (fin _ _)
  | bl b =>
    cases rv
    exact PySem.P.repr_of_bool (by cases b <;> exact fin _ _)
  | int i =>
    obtain ⟨t, rfl⟩ := rv
    exact PySem.P.repr_of_int (of_decide_eq_true (by simpa [PyData.showable] using sh)) (fin _ _)
  | str x =>
    obtain ⟨t, rfl⟩ := rv
    exact PySem.P.repr_of_str (fin _ _) (by simpa only [PyData.shown] using hz)
  | lst a b =>
    cases rv
    exact repr_of_reads' rd sh (fun _ => ns) hg (by omega) (fun _ _ z => z) (fun h' t n keep => ⟨.str _, H, I.kept keep, ⟨t, rfl⟩, q⟩) hz
  | tup a b =>
    cases rv
    exact repr_of_reads' rd sh (fun _ => ns) hg (by omega) (fun _ _ z => z) (fun h' t n keep => ⟨.str _, H, I.kept keep, ⟨t, rfl⟩, q⟩) hz
  | dct n a b =>
    cases rv
    exact repr_of_reads' rd sh (fun _ => ns) hg (by omega) (fun _ _ z => z) (fun h' t n keep => ⟨.str _, H, I.kept keep, ⟨t, rfl⟩, q⟩) hz
structure ShowsO (d : PyData) : Prop where
  ok : okD d = true
  sh : d.showable = true
  sz : d.shown.length ≤ sizeLine
  dp : d.depth ≤ 60
theorem c_reprO (fm : Fam P w K mg base N k sc F) (hs : (base.get? sysModules).isSome = true) {d : PyData} (s : ShowsO d) : C1 F W K (.builtin "repr") [d] (.str d.shown) := call1 (fun H vs dn => by
  cases dn with
  | cons a t =>
    cases t
    exact ⟨rRpO W K, fun i => by have := call_rpO (X := F i) (W := W) (by rw [fm.ba i]; exact hs) (fm.ro i).units (fm.gu i); rwa [fm.kk i] at this, fun Q q => ⟨_, d, rfl, a, s.ok, s.sh, s.sz, s.dp, q⟩⟩) fun H => .str _
theorem e_reprO (fm : Fam P w K mg base N k sc F) (hs : (base.get? sysModules).isSome = true) {e : Expr} {p pos : Pos} {d : PyData} (sh : ShowsO d) (ha : A1 F W K [e] env [d]) (hm : mg "repr" = none) (hg : glB sc "repr" = true := by decide +kernel)
    (st : ∀ i, starEach (e :: []) (F i).env = (false, eval e (F i).env) :: starEach [] (F i).env := by intro _; rfl) : E1 F W K (.Call (.Name "repr" p) [e] [] pos) env (.dat (.str d.shown)) :=
  ev_callB fm ha hm (c_reprO fm hs sh) (hg := hg) (st := st)
/-- d[key] of a written dict -/
theorem ev_ixKD (fm : Fam P w K mg base N k sc F) {a b : Expr} {pos : Pos} {p : Addr} {z : Str} {v : V} {d : PyData} (ha : E1 F W K a env (.raw (.ref p))) (hb : E1 F W K b env (.dat (.str z))) (kd : KDct K w p z v) (dc : DC K v d) (hs : PlainIx b := by exact fun _ _ => rfl) :
    E1 F W K (.Subscript a b pos) env (.dat d) := by
  intro σ H i sd Q q
  refine ⟨tOp (WX F) (WE F a) (WE F b), fun z => pe_ix (wx_ix z) (we_pe z) (we_pe z) hs, ?_⟩
  refine ha σ H i sd _ fun v1 H1 r1 x1 i1 d1 h1 => ?_
  subst h1
  refine hb σ H1 i1 (sd.mono x1) _ fun v2 H2 r2 x2 i2 d2 h2 => ?_
  subst h2
  cases (show some v1 = some (V.ref p) from d1)
  obtain ⟨u2, z2, n2⟩ := d2
  cases z2
  cases n2
  exact ⟨rIxD K w, fun i => by have := ix_kdict (X := F i); rwa [fm.kk i, fm.wo i] at this, p, z, v, rfl, rfl, kd, q _ H2 _ (x1.trans x2) i2 (dc W H2).dv rfl⟩
/-- a module constant that is no data -/
theorem ev_globR (fm : Fam P w K mg base N k sc F) {x : Str} {pos : Pos} {v : V} {u : Value} (hm : mg x = some u) (r : RelV v u) (hg : glB sc x = true := by decide +kernel) (hd : (x == ("__debug__" : Str)) = false := by decide) : E1 F W K (.Name x pos) env (.raw v) := by
  intro σ H i sd Q q
  exact ⟨tC v, fun i => pe_glob (gl_of (fm.es i) hg) (by rw [fm.mg i]; exact hm) r hd, q v H (.raw v) (Wx.refl W H) i raw_dv rfl⟩
end
def strsB : List Value → List Str → Bool
  | [], [] => true
  | .str b _ :: vs, s :: ss => b == s && strsB vs ss
  | _, _ => false
theorem strsB_vals : ∀ {vs : List Value} {ss : List Str}, strsB vs ss = true → Vals (ss.map V.str) vs
  | [], [], _ => .nil
  | .str b t :: vs, s :: ss, h => by
    have h2 : b = s ∧ strsB vs ss = true := by simpa [strsB] using h
    exact .cons ⟨t, by rw [h2.1]⟩ (strsB_vals h2.2)
  | [], _ :: _, h => by simp [strsB] at h
theorem dc_tup {K : PySem.W.Frag} {a : Addr} {dd : Option Addr} {its : Array Value} {n : Nat} {sl : Array (Option Value)} {ss : List Str} (l : K.lookup a = some ⟨.type "tuple", dd, .seq its n, sl⟩) (h : strsB its.toList ss = true) (z : its.size ≤ 1000) : DC K (.ref a) (.tuple (ss.map .str)) := by
  intro W H
  refine .tup (xs := ss.map V.str) (.inr (.inr ⟨_, its, n, l, rfl, rfl, sz_small (by omega), strsB_vals h⟩)) ?_
  clear h
  induction ss with
  | nil => exact .nil
  | cons s ss ih => exact .cons (.str s) ih
end Cr

set_option Elab.async false
set_option linter.all false
set_option maxRecDepth 100000
set_option maxHeartbeats 4000000
namespace Cr
open PySem PySem.Spec PyProof.Rows L2
/-! ## t[::-1] of a tuple -/
theorem fm_map {α β : Type} {f : α → Option β} {g : α → β} : ∀ {l : List α}, (∀ k ∈ l, f k = some (g k)) → l.filterMap f = l.map g
  | [], _ => rfl
  | x :: l, h => by
    rw [List.filterMap_cons, h x List.mem_cons_self, List.map_cons, fm_map fun k m => h k (List.mem_cons_of_mem _ m)]
theorem pick_back (xs : Array Value) : ((List.range xs.size).filterMap fun (k : Nat) => xs[((xs.size : Int) - 1 + (k : Int) * (-1)).toNat]?).toArray = xs.toList.reverse.toArray := by
  refine congrArg List.toArray ?_
  rw [fm_map (g := fun k => xs.toList.reverse.getD k .none) fun k hk => by
    have hk : k < xs.size := List.mem_range.mp hk
    have e1 : ((xs.size : Int) - 1 + (k : Int) * (-1)).toNat = xs.size - 1 - k := by omega
    rw [e1, List.getD_eq_getElem?_getD, List.getElem?_reverse (by rw [Array.length_toList]; exact hk), Array.length_toList, Array.getElem?_toList, Array.getElem?_eq_getElem (by omega)]
    rfl]
  refine List.ext_getElem (by simp) fun j h1 h2 => ?_
  simp only [List.getElem_map, List.getElem_range]
  rw [List.getD_eq_getElem?_getD, List.getElem?_eq_getElem (by simpa using h2)]
  rfl
section
variable {prog : Program} {w : World} {A : Around} {E : Value → Shared → Prop} {s : Shared}
theorem sliceBack {sl : Addr} {n : Nat} {t : Tok} {Q : Int × Int × Nat → Shared → Prop} (hs : s.heap.IsSliceOf sl .none .none (.int (-1) t)) (h : Q ((n : Int) - 1, -1, n) s) : wpAny (model prog w) A (Builtin.Slice.sliceApplied (.ref sl) (pure (n : Int))) Q E s := by
  obtain ⟨os, hos, hcs, hds⟩ := id hs
  unfold Builtin.Slice.sliceApplied Builtin.Slice.sliceFields
  refine wpAny_bind (wpAny_bind (wpAny_field hos hds (x := .none) rfl (wpAny_bind (wpAny_field hos hds (x := .none) rfl (wpAny_bind (wpAny_field hos hds (x := .int (-1) t) rfl (wpAny_pure ?_)))))))
  refine wpAny_bind (slicePart_int ?_)
  show wpAny _ _ (if ((-1 : Int) == 0) = true then _ else _) _ _ s
  rw [if_neg (by decide)]
  refine wpAny_bind (slicePart_none (wpAny_bind (slicePart_none (wpAny_bind (wpAny_pure ?_)))))
  show wpAny _ _ (match Builtin.Slice.sliceAdjust none none (-1) (n : Int) with | (lo, hi) => pure (lo, (-1 : Int), Builtin.Slice.slicePlaces lo hi (-1))) _ _ s
  have e : Builtin.Slice.sliceAdjust none none (-1) (n : Int) = ((n : Int) - 1, -1) := by
    unfold Builtin.Slice.sliceAdjust
    rfl
  rw [e]
  show wpAny _ _ (pure ((n : Int) - 1, (-1 : Int), Builtin.Slice.slicePlaces ((n : Int) - 1) (-1) (-1))) _ _ s
  have e2 : Builtin.Slice.slicePlaces ((n : Int) - 1) (-1) (-1) = n := by
    unfold Builtin.Slice.slicePlaces
    have h1 : ¬ ((-1 : Int) > 0) := by omega
    simp only [h1, if_false]
    have h2 : -(-1 : Int) = 1 := by decide
    rw [h2, Int.ediv_one]
    split <;> omega
  rw [e2]
  exact wpAny_pure h
theorem getItem_tuple_back {t sl : Addr} {items : Array Value} {tk : Tok} {Q : Value → Shared → Prop} (ht : IsTup s.heap t items) (hs : s.heap.IsSliceOf sl .none .none (.int (-1) tk))
    (h : Q (.ref s.heap.objs.size) { s with heap := s.heap.push { cls := .type "tuple", data := .seq items.toList.reverse.toArray } }) (hsz : items.size ≤ sizeLine) : wpAny (model prog w) A (getItem (.ref t) (.ref sl)) Q E s := by
  have htake : sizeOk (.seq items.toList.reverse.toArray) := by
    show items.toList.reverse.toArray.size ≤ sizeLine
    rw [List.size_toArray, List.length_reverse, Array.length_toList]
    exact hsz
  obtain ⟨os, hos, hcs, hds⟩ := id hs
  have hTs : s.TypeIs (.ref sl) "slice" := ⟨os, hos, hcs⟩
  unfold getItem
  try with_reducible refine wpAny_holding ?_
  first | refine wpAny_bind (wpAny_pure ?_) | skip
  refine wpAny_bind (wpAny_sequenceKey ht.typeIs (by decide) ?_)
  refine wpAny_bind (wpAny_callSpecial?_slot (name := Str.ofString "__getitem__") ht.typeIs PyProof.Rows.slot_tuple_getitem
    (wpAny_call_entry PyProof.Rows.slot_tuple_getitem ht.typeIs entry_tuple_getitem ?_ (args_tuple_getitem _ _)))
  show wpAny _ _ (Builtin.Tuple.tupleItemsOf (.ref t) >>= _) _ _ s
  refine wpAny_bind (tupleItemsOf_ ht ?_)
  refine wpAny_bind (wpAny_typeOf hTs ?_)
  rw [if_pos (by decide)]
  refine wpAny_bind (sliceBack hs ?_)
  show wpAny _ _ (if (((items.size : Int) - 1) == 0 && ((-1 : Int) == 1) && items.size == items.size) = true then _ else _) _ _ s
  rw [show ((-1 : Int) == 1) = false from by decide, Bool.and_false, Bool.false_and, if_neg Bool.false_ne_true, pick_back]
  first
    | exact wpAny_bind (m := Builtin.Tuple.tupleExact _) (wpAny_newObj_type (wpAny_pure ⟨_, rfl, wpAny_pure h⟩) htake)
    | exact wpAny_bind (m := Builtin.Tuple.tupleExact _) (wpAny_newObj_type (wpAny_bind (wpAny_pure (wpAny_pure ⟨_, rfl, wpAny_pure h⟩))) htake)
    | exact wpAny_bind (wpAny_bind (m := Builtin.Tuple.tupleExact _) (wpAny_newObj_type (wpAny_pure (wpAny_pure ⟨_, rfl, wpAny_pure h⟩)) htake))
    | exact wpAny_bind (wpAny_bind (m := Builtin.Tuple.tupleExact _) (wpAny_newObj_type (wpAny_pure ⟨_, rfl, wpAny_pure h⟩) htake))
end
section
variable {X : Cx}
def tRevT (K : PySem.W.Frag) (te : TE) : TE := fun σ H Q => te σ H fun x H1 => ∃ a xs, x = .ref a ∧ SqT K H1 a xs ∧ ∀ p, H1 p = none → Q (.ref p) (upd H1 p (.tup xs.reverse))
theorem pe_revT {e : Expr} {te : TE} {k : Nat} {p1 p2 p3 pos : Pos} (he : PE X e te) : PE X (.Subscript e (.Slice none none (some (.UnaryOp .USub (.Constant (.int 1) k p1) p2)) p3) pos) (tRevT X.K te) := by
  refine ⟨fun pins s σ H Q I h => ?_⟩
  refine Subscript_ (thn (he.run pins s σ H _ I h) fun v s1 ⟨x, H1, I1, r1, q1⟩ => ?_)
  obtain ⟨a, xs, ex, hx, q⟩ := q1
  subst ex
  cases r1
  have hst : PO X (some (.UnaryOp .USub (.Constant (.int 1) k p1) p2)) (tPart (tUn (rU fun i => .int (-i)) (tC (.int 1)))) := po_some (pe_un un_neg pe_int)
  refine wpAny_Slice (thn (po_none.run pins s1 σ H1 (fun o H2 => o = none ∧ H2 = H1) I1 ⟨rfl, rfl⟩) fun vl s2 ⟨l, H2, I2, pl, el, e2⟩ => ?_)
  subst el e2
  refine thn (po_none.run pins s2 σ H2 (fun o H3 => o = none ∧ H3 = H2) I2 ⟨rfl, rfl⟩) fun vu s3 ⟨u, H3, I3, pu, eu, e3⟩ => ?_
  subst eu e3
  refine thn (hst.run pins s3 σ H3 (fun o H4 => o = some (-1) ∧ H4 = H3) I3 ⟨1, rfl, -1, rfl, rfl, rfl⟩) fun vs s4 ⟨o, H4, I4, ps, eo, e4⟩ => ?_
  subst eo e4
  cases pl
  cases pu
  obtain ⟨tk, rfl⟩ : ∃ tk, vs = .int (-1) tk := by
    cases ps
    exact ⟨_, rfl⟩
  have I5 : L2.Inv X pins σ H4 { s4 with heap := s4.heap.push { cls := .type "slice", data := .fields #[.none, .none, .int (-1) tk] } } := I4.kept (t' := s4.toks) fun b ob q => Heap.get?_push_of_some _ q
  obtain ⟨its, r, ht, hz⟩ := I5.tuple hx
  have hlen := r.length
  show wpAny (model X.prog X.w) X.A (subscriptTail e (.Slice none none (some (.UnaryOp .USub (.Constant (.int 1) k p1) p2)) p3) (.ref a) (.ref s4.heap.objs.size)) (EP X pins σ Q) X.xe { s4 with heap := s4.heap.push { cls := .type "slice", data := .fields #[.none, .none, .int (-1) tk] } }
  refine tail_any (ops := [.ref a, .ref s4.heap.objs.size]) ht.typeIs (PyProof.Rows.slot_tuple_getitem.lookup) ?_ (by with_unfolding_all rfl)
  refine getItem_tuple_back ht (Heap.IsSliceOf.new _ .none .none (.int (-1) tk)) ?_ (by rw [List.size_toArray]; omega)
  refine ⟨.ref _, _, I5.laid (t' := s4.toks) (o := .tup xs.reverse) (fun b ob q => Heap.get?_push_of_some _ q) (Nat.le_refl _) ?_, rfl, q _ (I5.hok.fresh (Nat.le_refl _))⟩
  exact ⟨by rw [List.length_reverse]; exact hz, _, r.reverse, IsTup.new _ _⟩
end
section
variable {ι : Type} {F : ι → Cx} {P : Program} {w : World} {K : PySem.W.Frag} {mg : Str → Option Value} {base : Heap} {N : List Str} {k : Nat} {sc : Scope} {W : Wd} {env : List Sl}
theorem ev_revT (fm : Fam P w K mg base N k sc F) {e : Expr} {j : Nat} {p1 p2 p3 pos : Pos} {ds : List PyData} (he : E1 F W K e env (.dat (.tuple ds))) : E1 F W K (.Subscript e (.Slice none none (some (.UnaryOp .USub (.Constant (.int 1) j p1) p2)) p3) pos) env (.dat (.tuple ds.reverse)) := by
  intro σ H i sd Q q
  refine ⟨tRevT K (WE F e), fun z => by have := pe_revT (X := F z) (k := j) (p1 := p1) (p2 := p2) (p3 := p3) (pos := pos) (we_pe (F := F) (e := e) z); rwa [fm.kk z] at this, ?_⟩
  refine he σ H i sd _ fun v H1 r x1 i1 d1 h1 => ?_
  subst h1
  obtain ⟨u, z, n1⟩ := d1
  cases z
  cases n1 with
  | tup a r =>
    refine ⟨_, _, rfl, a.sq, fun p hp => ?_⟩
    obtain ⟨x2, i2, d2⟩ := new_tup i1 hp r.reverse
    exact q _ _ _ (x1.trans x2) i2 d2.dv rfl
/-! ## list(t), t * n -/
def rLs (K : PySem.W.Frag) : List V → Hp → VK → Prop := fun xs H Q => ∃ p ys, xs = [.ref p] ∧ (SqL K H p ys ∨ SqT K H p ys) ∧ ∀ l, H l = none → Q (.ref l) (upd H l (.lst ys))
theorem call_ls (fm : Fam P w K mg base N k sc F) (z : ι) : CallR (F z) (.type "list") (rLs K) := by
  have := call_list_of (X := F z)
  rwa [fm.kk z] at this
theorem c_listT (fm : Fam P w K mg base N k sc F) {ds : List PyData} : C1 F W K (.type "list") [.tuple ds] (.list ds) := by
  intro H vs ii dn Q q
  cases dn with
  | cons a t =>
    cases t
    cases a with
    | tup a r =>
      refine ⟨rLs K, call_ls fm, _, _, rfl, .inr a.sq, fun l hl => ?_⟩
      obtain ⟨x2, i2, d2⟩ := new_lst ii hl r
      exact q _ _ _ x2 i2 d2.dv rfl
theorem c_listL (fm : Fam P w K mg base N k sc F) {ds : List PyData} : C1 F W K (.type "list") [.list ds] (.list ds) := by
  intro H vs ii dn Q q
  cases dn with
  | cons a t =>
    cases t
    cases a with
    | lst a r =>
      refine ⟨rLs K, call_ls fm, _, _, rfl, .inl a.sq, fun l hl => ?_⟩
      obtain ⟨x2, i2, d2⟩ := new_lst ii hl r
      exact q _ _ _ x2 i2 d2.dv rfl
theorem e_listT (fm : Fam P w K mg base N k sc F) {e : Expr} {p pos : Pos} {ds : List PyData} (ha : A1 F W K [e] env [.tuple ds]) (hm : mg "list" = none) (hg : glB sc "list" = true := by decide +kernel)
    (st : ∀ i, starEach (e :: []) (F i).env = (false, eval e (F i).env) :: starEach [] (F i).env := by intro _; rfl) : E1 F W K (.Call (.Name "list" p) [e] [] pos) env (.dat (.list ds)) :=
  ev_callTy fm ha hm (c_listT fm) (hg := hg) (st := st)
/-- t * n, 2 ≤ n -/
theorem b_repT (fm : Fam P w K mg base N k sc F) {ds : List PyData} {n : Int} (h0 : ds ≠ []) (h1 : 2 ≤ n) (h2 : n ≤ 1000) (hz : ds.length ≤ 1000) : B1 F W K (binaryOp .Mult) (.tuple ds) (.int n) (.tuple (List.replicate n.toNat ds).flatten) := by
  intro H vx vy ii nx ny Q q
  cases ny
  cases nx with
  | tup a ra =>
    refine ⟨rRepT K, fun z => by have := op_repT (X := F z); rwa [fm.kk z] at this, _, n, _, rfl, rfl, a.sq, fun e => ?_, h1, h2, by rw [ra.length]; exact hz, fun p hp => ?_⟩
    · subst e
      cases ra
      exact h0 rfl
    · obtain ⟨x2, i2, d2⟩ := new_tup ii hp (ra.rep n.toNat)
      exact q _ _ _ x2 i2 d2.dv rfl
/-- x not in a list of data -/
theorem b_notInL (fm : Fam P w K mg base N k sc F) {x : PyData} {ds : List PyData} (hx : Nice x 20) (hy : Nice (.list ds) 20) : B1 F W K (compareOp .NotIn) x (.list ds) (.bool (!ds.any fun z => PyData.eqv z x)) := by
  intro H vx vy ii nx ny Q q
  exact ⟨rNotInD K, fun z => by have := op_notInD (X := F z) (by have := (fm.ro z).un; omega); rwa [fm.kk z] at this, x, ds, nx.dp hx.nd, ny.dp hy.nd, hx.shaped, hy.shaped, q _ H _ (Wx.refl W H) ii (Dn.dv (.bl _)) rfl⟩
end
end Cr

set_option Elab.async false
set_option linter.all false
set_option maxRecDepth 100000
set_option maxHeartbeats 4000000
namespace Cr
open PySem PySem.Spec PyProof.Rows L2
section
variable {ι : Type} {F : ι → Cx} {P : Program} {w : World} {K : PySem.W.Frag} {mg : Str → Option Value} {base : Heap} {N : List Str} {k : Nat} {sc : Scope} {W : Wd} {env : List Sl}
theorem ev_and2 {a b : Expr} {pos : Pos} {c d : Bool} (ha : E1 F W K a env (.dat (.bool c))) (hb : c = true → E1 F W K b env (.dat (.bool d))) : E1 F W K (.BoolOp .And [a, b] pos) env (.dat (.bool (c && d))) :=
  ev_and ha (fun h => ev_one ((hb h).imp fun r e => by rw [e, h]; rfl)) fun h => by rw [h]; rfl
theorem ev_or2 {a b : Expr} {pos : Pos} {c d : Bool} (ha : E1 F W K a env (.dat (.bool c))) (hb : c = false → E1 F W K b env (.dat (.bool d))) : E1 F W K (.BoolOp .Or [a, b] pos) env (.dat (.bool (c || d))) :=
  ev_or ha (fun h => ev_one ((hb h).imp fun r e => by rw [e, h]; rfl)) fun h => by rw [h]; rfl
theorem ev_and3 {a b x : Expr} {pos : Pos} {c d e : Bool} (ha : E1 F W K a env (.dat (.bool c))) (hb : c = true → E1 F W K b env (.dat (.bool d))) (hx : c = true → d = true → E1 F W K x env (.dat (.bool e))) : E1 F W K (.BoolOp .And [a, b, x] pos) env (.dat (.bool (c && (d && e)))) :=
  ev_and ha (fun h => (ev_and2 (hb h) (hx h)).imp fun r z => by rw [z, h]; rfl) fun h => by rw [h]; rfl
theorem et_or3 {a b x : Expr} {pos : Pos} {c d e : Bool} (ha : T1 F W K a env c) (hb : c = false → T1 F W K b env d) (hx : c = false → d = false → T1 F W K x env e) : T1 F W K (.BoolOp .Or [a, b, x] pos) env (c || (d || e)) :=
  et_w (ew_or ha (fun z => ew_or (hb z.symm) (fun y => ew_or1 ((hx z.symm y.symm).imp fun r q => by rw [← z, ← y, q]; rfl)) fun y => by rw [← z, ← y]; rfl) fun z => by rw [← z]; rfl)
theorem et_or4 {a b x y : Expr} {pos : Pos} {c d e f : Bool} (ha : T1 F W K a env c) (hb : c = false → T1 F W K b env d) (hx : c = false → d = false → T1 F W K x env e) (hy : c = false → d = false → e = false → T1 F W K y env f) : T1 F W K (.BoolOp .Or [a, b, x, y] pos) env (c || (d || (e || f))) :=
  et_w (ew_or ha (fun z => ew_or (hb z.symm) (fun u => ew_or (hx z.symm u.symm) (fun v => ew_or1 ((hy z.symm u.symm v.symm).imp fun r q => by rw [← z, ← u, ← v, q]; rfl)) fun v => by rw [← z, ← u, ← v]; rfl) fun u => by rw [← z, ← u]; rfl) fun z => by rw [← z]; rfl)
end
/-! ## how long repr's text is, for any data -/
theorem textFrom_le : ∀ (ts : List Str) (k : Nat) (acc : Str), (textFrom k acc ts).length ≤ acc.length + piled ts
  | [], k, acc => by
    show acc.length ≤ acc.length + piled []
    omega
  | t :: r, k, acc => by
    have ih := textFrom_le r (k + 1) (acc ++ (if k > 0 then ", " else "" : String) ++ t)
    have e : (((if k > 0 then ", " else "" : String) : Str)).length ≤ 2 := by split <;> decide +kernel
    rw [strLen_append, strLen_append] at ih
    rw [piled_cons]
    show (textFrom (k + 1) (acc ++ (if k > 0 then ", " else "" : String) ++ t) r).length ≤ _
    omega
theorem lst_text (ts : List Str) : (listText ts).length ≤ piled ts + 2 := by
  unfold listText
  have := textFrom_le ts 0 "["
  have e1 : ((("[" : String) : Str)).length = 1 := rfl
  have e2 : ((("]" : String) : Str)).length = 1 := rfl
  rw [strLen_append]
  omega
theorem RP.list {ds : List PyData} {n : Nat} (h : RPs ds n) : RP (.list ds) (n + 2) := ⟨by simp only [PyData.showable]; exact h.sh, by simp only [PyData.shown]; have := lst_text (PyData.shownAll ds); have := h.sz; omega⟩
theorem RP.dict0 : RP (.dict []) 2 := ⟨by simp only [PyData.showable, PyData.showableKv], by simp only [PyData.shown, PyData.shownKv]; decide +kernel⟩
theorem RPs.all {n : Nat} : ∀ {ds : List PyData}, (∀ d ∈ ds, RP d n) → RPs ds (ds.length * (n + 2))
  | [], _ => ⟨by simp only [PyData.showableAll], by simp only [PyData.shownAll]; exact Nat.zero_le _⟩
  | d :: ds, h => by
    have a := h d List.mem_cons_self
    have t := RPs.all (ds := ds) fun x hx => h x (List.mem_cons_of_mem _ hx)
    have c := RPs.cons a t
    refine ⟨c.sh, Nat.le_trans c.sz ?_⟩
    rw [List.length_cons, Nat.succ_mul]
    omega
theorem depthAll_le {n : Nat} : ∀ {ds : List PyData}, (∀ d ∈ ds, d.depth ≤ n) → PyData.depthAll ds ≤ n
  | [], _ => by simp only [PyData.depthAll]; omega
  | d :: ds, h => by
    simp only [PyData.depthAll]
    exact Nat.max_le.mpr ⟨h d List.mem_cons_self, depthAll_le fun x hx => h x (List.mem_cons_of_mem _ hx)⟩
/-- a small piece of data -/
structure At (d : PyData) : Prop where
  ok : okD d = true
  rp : RP d 200
  dp : d.depth ≤ 3
  st : ∀ z, d = .str z → PyData.strOk z = true
/-- data that can be shown, and five small pieces where it is a tuple of five -/
structure Th (d : PyData) : Prop where
  sh : ShowsO d
  at_ : ∀ ds, d = .tuple ds → ds.length = 5 → ∀ x ∈ ds, At x
theorem At.th {d : PyData} (h : At d) (n : ∀ ds, d = .tuple ds → ds.length ≠ 5) : Th d := ⟨⟨h.ok, h.rp.sh, Nat.le_trans h.rp.sz (sz_small (by decide)), Nat.le_trans h.dp (by decide)⟩, fun ds e l => absurd l (n ds e)⟩
theorem th_tup {ds : List PyData} (h : ∀ x ∈ ds, At x) (l : ds.length ≤ 30) : Th (.tuple ds) := by
  have r := RP.tuple (RPs.all (n := 200) fun d hd => (h d hd).rp)
  refine ⟨⟨okDAll_iff.mpr fun x hx => (h x hx).ok, r.sh, Nat.le_trans r.sz (sz_small ?_), ?_⟩, fun es e _ => ?_⟩
  · have : ds.length * 202 ≤ 30 * 202 := Nat.mul_le_mul_right _ l
    omega
  · simp only [PyData.depth]
    have := depthAll_le (n := 3) fun d hd => (h d hd).dp
    omega
  · cases e
    exact h
theorem th_lst {ds : List PyData} (h : ∀ x ∈ ds, At x) (l : ds.length ≤ 30) : Th (.list ds) := by
  have r := RP.list (RPs.all (n := 200) fun d hd => (h d hd).rp)
  refine ⟨⟨okDAll_iff.mpr fun x hx => (h x hx).ok, r.sh, Nat.le_trans r.sz (sz_small ?_), ?_⟩, fun es e _ => nomatch e⟩
  · have : ds.length * 202 ≤ 30 * 202 := Nat.mul_le_mul_right _ l
    omega
  · simp only [PyData.depth]
    have := depthAll_le (n := 3) fun d hd => (h d hd).dp
    omega
theorem th_one {ds : List PyData} (h : ∀ x ∈ ds, At x) (l : ds.length ≤ 30) : Th (.tuple [.tuple ds]) := by
  have r1 := RP.tuple (RPs.all (n := 200) fun d hd => (h d hd).rp)
  have r := RP.tuple (RPs.cons r1 .nil)
  have hl : ds.length * 202 ≤ 30 * 202 := Nat.mul_le_mul_right _ l
  have ok : okD (.tuple ds) = true := okDAll_iff.mpr fun x hx => (h x hx).ok
  refine ⟨⟨okDAll_iff.mpr fun x hx => ?_, r.sh, Nat.le_trans r.sz (sz_small (by omega)), ?_⟩, fun es e q => ?_⟩
  · rw [List.mem_singleton.mp hx]
    exact ok
  · simp only [PyData.depth, PyData.depthAll]
    have := depthAll_le (n := 3) fun d hd => (h d hd).dp
    omega
  · cases e
    exact absurd q (by simp)
theorem at_none : At .none := ⟨rfl, RP.none.up (by decide), by simp only [PyData.depth]; omega, fun _ e => nomatch e⟩
theorem at_bool (b : Bool) : At (.bool b) := ⟨rfl, RP.bool.up (by decide), by simp only [PyData.depth]; omega, fun _ e => nomatch e⟩
theorem at_int {i : Int} (h : i.natAbs < 2 ^ 100) : At (.int i) := ⟨rfl, (RP.int h).up (by decide), by simp only [PyData.depth]; omega, fun _ e => nomatch e⟩
theorem at_str {x : Str} (h : PyData.strOk x = true) (l : x.length ≤ 19) : At (.str x) := ⟨rfl, (RP.str h).up (by omega), by simp only [PyData.depth]; omega, fun _ e => by cases e; exact h⟩
theorem at_dict0 : At (.dict []) := ⟨rfl, RP.dict0.up (by decide), by simp [PyData.depth, PyData.depthKv], fun _ e => nomatch e⟩
theorem at_list0 : At (.list []) := ⟨rfl, (RP.list .nil).up (by decide), by simp only [PyData.depth, PyData.depthAll]; omega, fun _ e => nomatch e⟩
theorem at_one : At (.tuple [.int 1]) := ⟨rfl, (RP.tuple (.cons (RP.int (by decide)) .nil)).up (by decide), by simp only [PyData.depth, PyData.depthAll]; omega, fun _ e => nomatch e⟩
theorem cutD_mem {ds : List PyData} {lo hi : Option Int} {x : PyData} (h : x ∈ cutD ds lo hi) : x ∈ ds := List.mem_of_mem_drop (List.mem_of_mem_take h)
theorem cutD_len {ds : List PyData} {lo hi : Option Int} : (cutD ds lo hi).length ≤ ds.length := by
  unfold cutD
  rw [List.length_take, List.length_drop]
  omega
end Cr

set_option Elab.async false
set_option linter.all false
set_option maxRecDepth 100000
set_option maxHeartbeats 4000000
namespace Cr
open PySem PySem.Spec PyProof.Rows L2
section
variable {ι : Type} {F : ι → Cx} {P : Program} {w : World} {K : PySem.W.Frag} {mg : Str → Option Value} {base : Heap} {N : List Str} {k : Nat} {sc : Scope} {W : Wd} {env : List Sl}
theorem ev_drawN (fm : Fam P w K mg base N k sc F) {x : Str} {j : Nat} {ps : List Str} {Pre : List PyData → Prop} {Rn : List PyData → PyData → Prop} {q pos : Pos} {e : Expr} {es : List Expr} {p c : Addr} {ns : List Int} {Ra : List Sl → Prop} {R : PyData → Prop} (dw : Draws W p c ns) (o : Own P w K mg base x j ps (spD K Pre Rn)) (hj : j ≤ k)
    (ha : EvA F W K (e :: es) env Ra) (hr : ∀ rs, Ra rs → ∃ ds : List PyData, rs = .raw (.ref p) :: ds.map .dat ∧ Pre ds ∧ ∀ r, Rn ds r → R r)
    (hg : glB sc x = true := by decide +kernel) (hdb : (x == ("__debug__" : Str)) = false := by decide) (st : ∀ i, starEach (e :: es) (F i).env = (false, eval e (F i).env) :: starEach es (F i).env := by intro _; rfl) (pl : ∀ i, (backTo pos (starEach es (F i).env)).any (·.1) = false := by intro _; rfl) :
    Ev F W K (.Call (.Name x q) (e :: es) [] pos) env fun s => ∃ r, s = .dat r ∧ R r :=
  ev_call fm o hj ha (fun rs h vs H i sd Q E q => by
    obtain ⟨ds, rfl, hp, hR⟩ := hr rs h
    match vs, sd with
    | v :: us, ⟨hv, sd⟩ =>
      cases (show some v = some (V.ref p) from hv)
      exact ⟨W, p, c, ns, us, ds, rfl, dw, i, dn_of_sd sd, hp, fun r v H' hrn x i' dn => q v H' _ (fun a o n h => x a o (fun z => n (z ▸ dw.mp)) h) i' dn.dv ⟨r, rfl, hR r hrn⟩⟩) hg hdb st pl
theorem ev_tupN {es : List Expr} {k1 pos} {Rs : List Sl → Prop} {R : Sl → Prop} (h : EvA F W K es env Rs) (hr : ∀ rs, Rs rs → ∃ ds : List PyData, rs = ds.map .dat ∧ ds.length ≤ 1000000 ∧ R (.dat (.tuple ds))) : Ev F W K (.Tuple es k1 pos) env R := by
  intro σ H i sd Q q
  refine ⟨tTup (WA F es), fun z => pe_tup (wa_pa z), ?_⟩
  refine h σ H i sd _ fun vs H1 rs x1 i1 d1 h1 => ?_
  obtain ⟨ds, rfl, hz, hR⟩ := hr rs h1
  have dn := dn_of_sd d1
  refine ⟨by rw [dn.length]; exact sz_small (by omega), fun p hp => ?_⟩
  obtain ⟨x2, i2, d2⟩ := new_tup i1 hp dn
  exact q _ _ _ (x1.trans x2) i2 d2.dv hR
end
end Cr

set_option Elab.async false
set_option linter.all false
set_option maxRecDepth 100000
set_option maxHeartbeats 4000000
namespace Cr
open PySem PySem.Spec PyProof.Rows L2

/-! ## sorted(xs, key=f), f an own def from data to data -/
theorem DnAll.each {K : PySem.W.Frag} {W : Wd} {H : Hp} {h : Heap} : ∀ {ds : List PyData} {us : List Value} {as : List Addr}, ReadsAll h us ds as → PySem.W.EachIs (fun v d => ∃ as, Reads h v d as) us ds
  | [], _, _, r => by
    cases r
    exact .nil
  | _ :: _, _, _, r => by
    cases r with
    | cons a t => exact .cons ⟨_, a⟩ (DnAll.each (K := K) (W := W) (H := H) t)
theorem each_zip : ∀ {xs : List V} {ds : List PyData} {us : List Value}, Vals xs us → xs.length = ds.length → PySem.W.EachIs (fun v (p : V × PyData) => RelV p.1 v) us (xs.zip ds)
  | [], [], _, r, _ => by
    cases r
    exact .nil
  | x :: xs, d :: ds, _, r, l => by
    cases r with
    | cons a t => exact .cons a (each_zip t (by simpa using l))
  | [], _ :: _, _, _, l => absurd l (by simp)
  | _ :: _, [], _, _, l => absurd l (by simp)
theorem vals_each : ∀ {us : List Value} {ps : List (V × PyData)}, PySem.W.EachIs (fun v (p : V × PyData) => RelV p.1 v) us ps → Vals (ps.map (·.1)) us
  | _, _, .nil => .nil
  | _, _, .cons a t => .cons a (vals_each t)
theorem zip_dn {W : Wd} {K : PySem.W.Frag} {H : Hp} : ∀ {xs : List V} {ds : List PyData}, DnAll W K H xs ds → ∀ p ∈ xs.zip ds, Dn W K H p.1 p.2
  | _, _, .nil, p, hp => by simp at hp
  | _, _, .cons a t, p, hp => by
    rw [List.zip_cons_cons] at hp
    rcases List.mem_cons.mp hp with e | e
    · rw [e]
      exact a
    · exact zip_dn t p e
theorem dn_pairs {W : Wd} {K : PySem.W.Frag} {H : Hp} : ∀ {ps : List (V × PyData)}, (∀ p ∈ ps, Dn W K H p.1 p.2) → DnAll W K H (ps.map (·.1)) (ps.map (·.2))
  | [], _ => .nil
  | p :: ps, h => .cons (h p List.mem_cons_self) (dn_pairs fun q hq => h q (List.mem_cons_of_mem _ hq))
theorem noDict_map {key : PyData → PyData} : ∀ {ds : List PyData}, (∀ d ∈ ds, noDict (key d) = true) → noDictAll (ds.map key) = true
  | [], _ => rfl
  | d :: ds, h => by
    show (noDict (key d) && noDictAll (ds.map key)) = true
    rw [h d List.mem_cons_self, noDict_map fun x hx => h x (List.mem_cons_of_mem _ hx)]
    rfl
def rSortK (W : Wd) (K : PySem.W.Frag) (f : Addr) (Fn : List PyData → PyData → Prop) : List V → List V → Hp → VK → Prop := fun vs zs H Q => ∃ (l : Addr) (xs : List V) (ds : List PyData) (key : PyData → PyData), vs = [.ref l] ∧ zs = [.ref f] ∧ SqL K H l xs ∧ DnAll W K H xs ds ∧ W.I H ∧
  (∀ d ∈ ds, Fn [d] (key d)) ∧ PySem.W.AllAlike (ds.map key) ∧ PySem.W.Sortable (ds.map key) ∧ (∀ d ∈ ds, noDict (key d) = true ∧ (key d).depth ≤ 60) ∧
  ∀ (zs : List (V × PyData)) (p : Addr) (H1 : Hp), zs = (xs.zip ds).mergeSort (PySem.W.dataLe false fun q => key q.2) → Xt H H1 → H1 p = none → DnAll W K H1 (zs.map (·.1)) (zs.map (·.2)) → Q (.ref p) (upd H1 p (.lst (zs.map (·.1))))
section
variable {X : Cx} {k : Nat} {f : Addr} {fd : FuncData} {x : Str} {Fn : List PyData → PyData → Prop} {W : Wd}
/-- the key of one item, two builtins deep -/
theorem key_turn (FG : FnG X.prog X.w X.K X.mg X.base k f fd [x] (spF X.K Fn)) (hg : X.A.guards = some []) (hr : Room (k + 2) X.A) (hb : Binds X.K fd [x] []) {pins : List (Addr × Obj)} {σ : L2.St} {H : Hp} {s : Shared} (I : Inv X pins σ H s) {v : V} {u : Value} {d r : PyData} (iW : W.I H) (rv : RelV v u) (dn : Dn W X.K H v d) (hf : Fn [d] r) {E : Value → Shared → Prop} :
    wpAny (model X.prog X.w) X.A.in1.in1 (call (.ref f) [u]) (EP X pins σ fun y H' => Xt H H' ∧ Dn W X.K H' y r) E s := by
  apply wpAny_call
  refine codeAny_mono (FG.run X.A.in1.in1 X.stack s H ⟨[u], []⟩ [u] [v] (fun y H' => Xt H H' ∧ Dn W X.K H' y r) (fun _ _ _ => False) hg hr.in1.in1 I.env0.in1.in1 (by simpa using hb s [u] I.kIn rfl) (.cons rv .nil) ⟨W, [d], r, iW, .cons dn .nil, hf, fun y H' xt dy => ⟨xt, dy⟩⟩) ?_
  intro res s' hq
  match res, hq with
  | .ok (.ret u), hq => exact I.after hq
theorem FpOk.to {pins : List (Addr × Obj)} {H H' : Hp} {b : Addr} (h : FpOk X pins H b) (n : H' b = none) : FpOk X pins H' b := ⟨n, h.2⟩
theorem key_loop (FG : FnG X.prog X.w X.K X.mg X.base k f fd [x] (spF X.K Fn)) (hg : X.A.guards = some []) (hr : Room (k + 2) X.A) (hb : Binds X.K fd [x] []) {pins : List (Addr × Obj)} {σ : L2.St} {H : Hp} {s : Shared} (I : Inv X pins σ H s) (iW : W.I H)
    {xs : List V} {vs : List Value} {ds : List PyData} {key : PyData → PyData} {a kS : Addr} {e1 : Nat} {P : PySem.Fin → Shared → Prop} {E : Value → Shared → Prop} (rv : Vals xs vs) (dn : DnAll W X.K H xs ds) (hF : ∀ d ∈ ds, Fn [d] (key d)) (fa : FpOk X pins H a) (fk : FpOk X pins H kS)
    (nk : s.heap.get? kS = some (seqObj "list" #[] 0)) (na : s.heap.get? a = some (seqObj "list" #[] e1)) (hka : kS ≠ a) (hZ : vs.length ≤ sizeLine) (hal : PySem.W.AllAlike (ds.map key)) (hsk : PySem.W.Sortable (ds.map key)) (hno : ∀ d ∈ ds, noDict (key d) = true ∧ (key d).depth ≤ 60)
    (h : ∀ (H1 : Hp) (s' : Shared) (h' : Heap) (tk : Nat) (out : List Value) (c : Nat), Inv X pins σ H1 s' → Xt H H1 → FpOk X pins H1 a → FpOk X pins H1 kS → (∀ b o, b ≠ a → b ≠ kS → s'.heap.get? b = some o → h'.get? b = some o) → h'.get? a = some (seqObj "list" out.toArray c) → PySem.W.KeyedOut false (ds.map key) vs out → P (.done (.ret .none)) { s' with heap := h', toks := tk }) :
    wpAny (model X.prog X.w) X.A.in1.in1 (ksk_rest a (.ref f) false vs.toArray e1 (.ref kS)) P E s := by
  have lxd := dn.length
  have lxv := rv.length
  have un := hr.un
  unfold ksk_rest
  refine wpAny_bind (wpAny_rule ?_)
  rw [← Array.forIn_toList]
  show wpAny _ _ (forIn vs _ _ >>= _) _ _ _
  let J : Nat → Shared → Prop := fun i s' => ∃ (H1 : Hp) (kA : Array Value) (e : Nat) (ks : List V), Inv X pins σ H1 s' ∧ Xt H H1 ∧ FpOk X pins H1 a ∧ FpOk X pins H1 kS ∧ s'.heap.get? kS = some (seqObj "list" kA e) ∧ s'.heap.get? a = some (seqObj "list" #[] e1) ∧ Vals ks kA.toList ∧ DnAll W X.K H1 ks ((ds.map key).take i)
  refine wpAny_bind (ksk_fold J vs 0 s ⟨H, #[], 0, [], I, Xt.refl H, fa, fk, nk, na, .nil, by rw [List.take_zero]; exact .nil⟩ ?step ?done)
  case step =>
    rintro j u s' hu ⟨H1, kA, e, ks, I1, xt1, fa1, fk1, nk1, na1, rk, dk⟩
    rw [Nat.zero_add] at dk ⊢
    have jl : j < vs.length := (List.getElem?_eq_some_iff.mp hu).1
    have kl : kA.size = j := by
      have q1 : ks.length = kA.toList.length := rk.length
      have q2 := dk.length
      have q3 : kA.toList.length = kA.size := Array.length_toList
      rw [List.length_take, List.length_map] at q2
      omega
    obtain ⟨v, hv, ruv⟩ : ∃ v, xs[j]? = some v ∧ RelV v u := by
      have hx : j < xs.length := by omega
      refine ⟨xs[j], List.getElem?_eq_getElem hx, ?_⟩
      obtain ⟨w', h1, h2⟩ := rv.get (List.getElem?_eq_getElem hx)
      rw [hu] at h1
      cases h1
      exact h2
    obtain ⟨d, hd, dv⟩ := dn.getV hv
    have md : d ∈ ds := List.mem_of_getElem? hd
    have I2 := I1.pinned (fp := [kS, a]) (fun b hb => by
      rcases List.mem_cons.mp hb with q | q
      · rw [q]; exact fk1
      · rw [List.mem_singleton.mp q]; exact fa1) (fun b hb => by
      rcases List.mem_cons.mp hb with q | q
      · rw [q]; exact ⟨_, nk1, fun z c => nomatch c⟩
      · rw [List.mem_singleton.mp q]; exact ⟨_, na1, fun z c => nomatch c⟩)
    refine wpAny_bind (wpAny_attempt (wpAny_mono (key_turn FG hg hr hb I2 (E := fun _ _ => False) (W.mono _ _ iW xt1) ruv (dv.mono (xt1.wx W)) (hF d md)) (fun y s2 hy => ?_) fun _ _ c => c.elim))
    obtain ⟨vy, H2, I3, ry, xt2, dy⟩ := hy
    have pk := I3.pin _ (List.mem_append_right _ (List.mem_append_right _ (mem_pinsAt (b := kS) (fp := [kS, a]) (by simp) nk1)))
    have pa := I3.pin _ (List.mem_append_right _ (List.mem_append_right _ (mem_pinsAt (b := a) (fp := [kS, a]) (by simp) na1)))
    have I4 := I3.unpinned
    have fk2 : FpOk X pins H2 kS := FpOk.to fk1 pk.2.1
    have fa2 : FpOk X pins H2 a := FpOk.to fa1 pa.2.1
    have nk2 : s2.heap.get? kS = some (seqObj "list" kA e) := pk.1
    have na2 : s2.heap.get? a = some (seqObj "list" #[] e1) := pa.1
    have sb := Heap.SameBut.update s2.heap kS (Obj.mapSeq (·.push y))
    show wpAny _ _ (Builtin.List.listUpdate (.ref kS) (·.push y) >>= _) _ _ _
    refine wpAny_bind (listUpdate_at nk2 rfl ?_ (by omega) (by rw [Array.size_push]; omega))
    refine wpAny_pure ⟨rfl, H2, kA.push y, _, ks ++ [vy], I4.turnedL (t' := s2.toks) (ch := [kS]) (fun b o hb e => (sb.2 b (fun q => hb (by simp [q]))).trans e) (fun b hb => by rw [List.mem_singleton.mp hb]; exact fk2), xt1.trans xt2, fa2, fk2, get?_update_seq nk2 (·.push y), (sb.2 a hka.symm).trans na2, ?_, ?_⟩
    · have : (kA.push y).toList = kA.toList ++ [y] := by simp
      rw [this]
      exact rk.append (.cons ry .nil)
    · have hk : (ds.map key)[j]? = some (key d) := by rw [List.getElem?_map, hd]; rfl
      have : (ds.map key).take (j + 1) = (ds.map key).take j ++ [key d] := by rw [List.take_add_one, hk]; rfl
      rw [this]
      exact (DnAll.mono (xt2.wx W) dk).append (.cons dy .nil)
  case done =>
    rintro s' ⟨H1, kA, e, ks, I1, xt1, fa1, fk1, nk1, na1, rk, dk⟩
    have full : (ds.map key).take (0 + vs.length) = ds.map key := List.take_of_length_le (by rw [List.length_map]; omega)
    rw [full] at dk
    have kl : kA.size = vs.length := by
      have q1 : ks.length = kA.toList.length := rk.length
      have q2 := dk.length
      have q3 : kA.toList.length = kA.size := Array.length_toList
      rw [List.length_map] at q2
      omega
    have nd : noDictAll (ds.map key) = true := noDict_map fun d hd => (hno d hd).1
    obtain ⟨as, rd⟩ := Dp.readsAll I1 _ _ _ (dk.dp nd) rk
    have each := DnAll.each (K := X.K) (W := W) (H := H1) rd
    refine wpAny_bind (listItems_at nk1 rfl ?_)
    refine PySem.W.keyH_end (κ := PySem.W.dataKind s'.heap (ds.map key)) (h₁ := PySem.W.hideAll s'.heap [kS]) (fun b o _ e => PySem.W.of_hideAll _ e) (PySem.W.hideAll_none _ (by simp)) nk1 na1 hka (PySem.W.SortsAt.data each hal hsk fun d hd => ?_) kl hZ fun h3 tk3 c k3 n3 => h H1 s' h3 tk3 _ c I1 xt1 fa1 fk1 (fun b o n1 n2 e => k3 b o n1 (PySem.W.hideAll_get _ e (by simpa using n2))) n3 ⟨s'.heap, kA.toList, hal, rfl, each⟩
    obtain ⟨d0, h0, rfl⟩ := List.mem_map.mp hd
    have := (hno d0 h0).2
    show X.A.units + 1 + 1 + (key d0).depth < cLine
    omega
theorem zip_keys {key : PyData → PyData} : ∀ {xs : List V} {ds : List PyData}, xs.length = ds.length → (xs.zip ds).map (fun p => key p.2) = ds.map key
  | [], [], _ => rfl
  | _ :: _, _ :: _, l => by
    rw [List.zip_cons_cons, List.map_cons, List.map_cons, zip_keys (by simpa using l)]
  | [], _ :: _, l => absurd l (by simp)
  | _ :: _, [], l => absurd l (by simp)
theorem call_sortK (FG : FnG X.prog X.w X.K X.mg X.base k f fd [x] (spF X.K Fn)) (hg : X.A.guards = some []) (hr : Room (k + 2) X.A) (hb : Binds X.K fd [x] []) : CallRK X (.builtin "sorted") [Str.ofString "key"] (rSortK W X.K f Fn) := by
  intro pins s σ H vs zs us ws Q I r rz h
  obtain ⟨l, xs, ds, key, rfl, rfl, hl, dn, iW, hF, hal, hsk, hno, q⟩ := h
  obtain ⟨u1, rfl, r1⟩ := vals1 r
  obtain ⟨u2, rfl, r2⟩ := vals1 rz
  cases (show u1 = Value.ref l from r1)
  cases (show u2 = Value.ref f from r2)
  obtain ⟨its, rv, hli, hz⟩ := I.list hl
  have lxv := rv.length
  have lxd := dn.length
  have zl : its.length ≤ sizeLine := by omega
  have ho := PySem.W.copyHeap_at s.heap its
  show wpAny _ _ (call (.builtin "sorted") [.ref l] [(Str.ofString "key", .ref f)]) _ _ _
  refine PySem.W.sorted_of_sort hli.isList zl (ksk_s1 _ _) (fun _ => ksk_l1 _ _) fun E' => ?_
  rw [ksk_t1]
  have hsz : (PySem.W.copyHeap s.heap its).objs.size = s.heap.objs.size + 2 := by
    unfold PySem.W.copyHeap
    rw [size_push', Heap.size_update, size_push']
  obtain ⟨e1, ho1⟩ : ∃ e1, ((PySem.W.copyHeap s.heap its).update (s.heap.objs.size + 1) (Obj.mapSeq fun _ => (#[] : Array Value))).get? (s.heap.objs.size + 1) = some (seqObj "list" #[] e1) := ⟨_, get?_update_seq ho fun _ => #[]⟩
  have big : (((PySem.W.copyHeap s.heap its).update (s.heap.objs.size + 1) (Obj.mapSeq fun _ => (#[] : Array Value))).push (seqObj "tuple" its.toArray 0)).objs.size = s.heap.objs.size + 3 := by rw [size_push', Heap.size_update, hsz]
  unfold ksk_tree
  refine wpAny_bind (listItems_at (s := { s with heap := PySem.W.copyHeap s.heap its }) ho rfl ?_)
  refine wpAny_bind (listUpdate_at (s := { s with heap := PySem.W.copyHeap s.heap its }) ho rfl ?_ (by rw [List.size_toArray]; exact zl) (Nat.zero_le _))
  refine wpAny_bind (seqEpoch_at ho1 rfl ?_)
  refine wpAny_bind (wpAny_newTuple ?_ (by show its.length ≤ _; exact zl))
  refine wpAny_bind (wpAny_newList ?_ (Nat.zero_le _))
  refine wpAny_holding ?_
  have I2 : L2.Inv X pins σ H { s with heap := PySem.W.sortingHeap (PySem.W.copyHeap s.heap its) (s.heap.objs.size + 1) its, toks := s.toks } := I.kept (t' := s.toks) fun b o e => PySem.W.sortingHeap_old (Nat.ne_of_lt (Nat.lt_succ_of_lt (Heap.lt_size e))) (PySem.W.copyHeap_old e)
  have fa : FpOk X pins H (s.heap.objs.size + 1) := I.fpOk (Nat.le_succ _) (I.hok.fresh (Nat.le_succ _))
  have fk : FpOk X pins H (((PySem.W.copyHeap s.heap its).update (s.heap.objs.size + 1) (Obj.mapSeq fun _ => (#[] : Array Value))).push (seqObj "tuple" its.toArray 0)).objs.size := I.fpOk (by rw [big]; omega) (I.hok.fresh (by rw [big]; omega))
  refine key_loop FG hg hr hb I2 iW rv dn hF fa fk (Heap.get?_push_size _ rfl) (Heap.get?_push_of_some _ (Heap.get?_push_of_some _ ho1)) (fun z => absurd (big.symm.trans z) (by omega)) zl hal hsk hno ?_
  intro H1 s' h' tk out c I1 xt fa1 fk1 keep na ko
  have each := PySem.W.keyedOut_each (rev := false) (R := fun v (p : V × PyData) => RelV p.1 v) (bs := xs.zip ds) (fun p => key p.2) (by rw [zip_keys lxd]; exact ko) (each_zip rv lxd)
  have rvo := vals_each each
  have I3 : L2.Inv X pins σ H1 { s' with heap := h', toks := tk } := I1.turnedL (t' := tk) (ch := [s.heap.objs.size + 1, (((PySem.W.copyHeap s.heap its).update (s.heap.objs.size + 1) (Obj.mapSeq fun _ => (#[] : Array Value))).push (seqObj "tuple" its.toArray 0)).objs.size]) (fun b o n e => keep b o (fun z => n (by simp [z])) (fun z => n (by rw [z]; exact List.mem_cons_of_mem _ List.mem_cons_self)) e) (fun b hb => by
    rcases List.mem_cons.mp hb with z | z
    · rw [z]; exact fa1
    · rw [List.mem_singleton.mp z]; exact fk1)
  have lo : (((xs.zip ds).mergeSort (PySem.W.dataLe false fun q => key q.2)).map (·.1)).length ≤ sizeLine := by
    rw [List.length_map, (List.mergeSort_perm _ _).length_eq, List.length_zip]
    omega
  have I4 := I3.take (h' := h') (t' := tk) (it := s.heap.objs.size + 1) (o := .lst (((xs.zip ds).mergeSort (PySem.W.dataLe false fun q => key q.2)).map (·.1))) (fun b ob _ e => e) fa1 ⟨lo, out, c, rvo, na⟩
  refine ⟨rfl, .ref (s.heap.objs.size + 1), _, I4, rfl, q _ _ H1 rfl xt fa1.1 (dn_pairs fun p hp => ?_)⟩
  exact (zip_dn dn p ((List.mergeSort_perm _ _).mem_iff.mp hp)).mono (xt.wx W)
end
end Cr

set_option Elab.async false
set_option linter.all false
set_option maxRecDepth 100000
set_option maxHeartbeats 4000000
namespace Cr
open PySem PySem.Spec PyProof.Rows L2
section
variable {ι : Type} {F : ι → Cx} {P : Program} {w : World} {K : PySem.W.Frag} {mg : Str → Option Value} {base : Heap} {N : List Str} {k : Nat} {sc : Scope} {W : Wd} {env : List Sl}
/-- whether a stands no later than b by the key -/
def keyLe (key : PyData → PyData) (a b : PyData) : Bool := !PySem.W.dataLt (key b) (key a)
/-- sorted(e, key=g) of data -/
theorem ev_sortK (fm : Fam P w K mg base N k sc F) {g xp : Str} {j : Nat} {Fn : List PyData → PyData → Prop} {e : Expr} {p p2 p3 pos : Pos} {ds : List PyData} (key : PyData → PyData) (o : Own P w K mg base g j [xp] (spF K Fn)) (hj : j + 2 ≤ k) (he : E1 F W K e env (.dat (.list ds)))
    (hF : ∀ d ∈ ds, Fn [d] (key d)) (hal : PySem.W.AllAlike (ds.map key)) (hsk : PySem.W.Sortable (ds.map key)) (hno : ∀ d ∈ ds, noDict (key d) = true ∧ (key d).depth ≤ 60) (hm : mg "sorted" = none) (hg : glB sc "sorted" = true := by decide +kernel) (hgg : glB sc g = true := by decide +kernel) (hdb : (g == ("__debug__" : Str)) = false := by decide)
    (st : ∀ i, backTo pos (starEach [e] (F i).env) = (false, eval e (F i).env) :: backTo pos (starEach [] (F i).env) := by intro _; rfl) (pl : ∀ i, (backTo pos (starEach [e] (F i).env)).any (·.1) = false := by intro _; rfl) (st2 : ∀ i, starEach [e] (F i).env = (false, eval e (F i).env) :: starEach [] (F i).env := by intro _; rfl)
    (q1 : ∀ i, (backToKw pos (keywordEach [⟨some "key", .Name g p2, p3⟩] (F i).env)).all (·.1.isSome) = true := by intro _; rfl) (q2 : ∀ i, (backToKw pos (keywordEach [⟨some "key", .Name g p2, p3⟩] (F i).env)).any (·.1.isNone) = false := by intro _; rfl) (q3 : ∀ i, (backToKw pos (keywordEach [⟨some "key", .Name g p2, p3⟩] (F i).env)).filterMap (·.1) = [Str.ofString "key"] := by intro _; rfl) :
    Ev F W K (.Call (.Name "sorted" p) [e] [⟨some "key", .Name g p2, p3⟩] pos) env fun s => ∃ es, s = .dat (.list es) ∧ es.Perm ds ∧ es.Pairwise fun a b => keyLe key a b = true := by
  obtain ⟨f, fd, hmg, hk, hb, G⟩ := o.ex
  intro σ H i sd Q q
  refine ⟨tCKw (rSortK W K f Fn) (tCons (WE F e) tNil) (tCons (tC (.ref f)) tNil), fun z => ?_, ?_⟩
  · have GG : FnG (F z).prog (F z).w (F z).K (F z).mg (F z).base j f fd [xp] (spF (F z).K Fn) := by rw [fm.pr z, fm.wo z, fm.kk z, fm.mg z, fm.ba z]; exact G
    have C := call_sortK (W := W) GG (fm.gu z) ((fm.ro z).mono hj) (by rw [fm.kk z]; exact hb)
    rw [fm.kk z] at C
    exact pe_callBK C (gl_of (fm.es z) hg) (by rw [fm.mg z]; exact hm) (by decide +kernel) (pa_cons (we_pe z) pa_nil (st2 z)) (pk_cons (pe_glob (gl_of (fm.es z) hgg) (by rw [fm.mg z]; exact hmg) rfl hdb) pk_nil) (by decide) (by decide) (st z) (pl z) (q1 z) (q2 z) (q3 z)
  · refine he σ H i sd _ fun v H1 r x1 i1 d1 h1 => ?_
    subst h1
    obtain ⟨u, z, n1⟩ := d1
    cases z
    cases n1 with
    | @lst _ xs _ a ra =>
      refine ⟨_, xs, ds, key, rfl, rfl, a.sq, ra, i1, hF, hal, hsk, hno, fun zs p H2 ez xt hp dn => ?_⟩
      obtain ⟨x2, i2, d2⟩ := new_lst (W.mono _ _ i1 xt) hp dn
      refine q _ _ _ ((x1.trans (xt.wx W)).trans x2) i2 d2.dv ⟨_, rfl, ?_, ?_⟩
      · have e2 : (xs.zip ds).map Prod.snd = ds := List.map_snd_zip (Nat.le_of_eq ra.length.symm)
        have := (List.mergeSort_perm (xs.zip ds) (PySem.W.dataLe false fun q => key q.2)).map Prod.snd
        rw [e2] at this
        rw [ez]
        exact this
      · rw [ez, List.pairwise_map]
        exact PySem.W.sort_pairwise (le := PySem.W.dataLe false fun q : V × PyData => key q.2) (PySem.W.sortLe_total _ _ _) (xs.zip ds)
/-! ## x < y of lists, l.count(x), t.index(x) -/
def rLtD (K : PySem.W.Frag) : R2 := fun x y H Q => ∃ d e, Dp K H x d ∧ Dp K H y e ∧ PySem.W.alike d e = true ∧ d ≠ .none ∧ d.depth ≤ 60 ∧ Q (.bl (PySem.W.dataLt d e)) H
theorem op_ltD {X : Cx} (hu : X.A.units + 64 < cLine) : OpR X (compareOp .Lt) (rLtD X.K) := by
  intro pins s σ H x y v u Q I rx ry h
  obtain ⟨d, e, hd, he, al, nn, dd, q⟩ := h
  obtain ⟨as, r1⟩ := Dp.reads I d x v hd rx
  obtain ⟨bs, r2⟩ := Dp.reads I e y u he ry
  exact PySem.W.lt_data r1 r2 al nn (by have : min d.depth e.depth ≤ d.depth := Nat.min_le_left _ _; omega) ⟨.bl _, H, I, rfl, q⟩
theorem b_ltD (fm : Fam P w K mg base N k sc F) {x y : PyData} (nx : noDict x = true) (ny : noDict y = true) (al : PySem.W.alike x y = true) (nn : x ≠ .none) (dp : x.depth ≤ 60) : B1 F W K (compareOp .Lt) x y (.bool (PySem.W.dataLt x y)) := by
  intro H vx vy ii dx dy Q q
  exact ⟨rLtD K, fun z => by have := op_ltD (X := F z) (fm.ro z).units; rwa [fm.kk z] at this, x, y, dx.dp nx, dy.dp ny, al, nn, dp, q _ H _ (Wx.refl W H) ii (Dn.dv (.bl _)) rfl⟩
end
end Cr

set_option Elab.async false
set_option linter.all false
set_option maxRecDepth 100000
set_option maxHeartbeats 4000000
namespace Cr
open PySem PySem.Spec PyProof.Rows L2

/-! ## worlds that change underway -/
theorem exec_of_one {M : Model} {A : Around} {E : Value → Shared → Prop} {s : Shared} {st : Stmt} {env : Env} {Q : Flow → Shared → Prop} (h : wpAny M A (execs [st] env) Q E s) : wpAny M A (exec st env) Q E s := fun Γ p hΓ => by
  have h1 := h Γ p hΓ
  rw [execs_cons, Sem.wp_bind'] at h1
  refine Sem.wp_mono M Γ _ (fun f p' s' h' => ?_) (fun _ _ _ h' => h') _ _ h1
  cases f <;> exact h'
theorem pss_two {X : Cx} {st : Stmt} {rest : List Stmt} {t u : TS} (h1 : PSs X [st] t) (h2 : PSs X rest u) : PSs X (st :: rest) (tSeq t u) := by
  refine ⟨fun pins s σ H D I h => ?_⟩
  refine wpAny_execs_cons (exec_of_one (thn (h1.run pins s σ H { D with nx := u D } I h) fun f s1 q => ?_))
  cases f with
  | next =>
    obtain ⟨σ', H', I', q⟩ := q
    exact h2.run pins s1 σ' H' D I' q
  | ret v => exact q
  | brk => exact q
  | cont => exact q
section
variable {ι : Type} (F : ι → Cx) (W V : Wd) (K : PySem.W.Frag)
/-- a block that starts in the world W and whose ends are told in the world V -/
def Bd2 (ss : List Stmt) (env : List Sl) (P : Post) : Prop :=
  ∀ (σ : L2.St) (H : Hp) (D : Ends), W.I H → Sd W K H σ env → Good V K P D H → WS F ss D σ H
end
/-- V's reach is W's -/
def Wle (W V : Wd) : Prop := ∀ a, W.M a → V.M a
theorem Wle.wx {W V : Wd} {H H' : Hp} (l : Wle W V) (x : Wx W H H') : Wx V H H' := fun a o n h => x a o (fun m => n (l a m)) h
section
variable {ι : Type} {F : ι → Cx} {P : Program} {w : World} {K : PySem.W.Frag} {mg : Str → Option Value} {base : Heap} {N : List Str} {k : Nat} {sc : Scope} {W V : Wd} {env : List Sl}
/-- one statement in W, then on -/
theorem bd2_step {st : Stmt} {rest : List Stmt} {Po : Post} (Iv : List Sl → Prop) (l : Wle W V) (h : Bd F W K [st] env { nx := Iv, rt := fun _ => False }) (hr : ∀ env1, Iv env1 → Bd2 F W V K rest env1 Po) : Bd2 F W V K (st :: rest) env Po := by
  intro σ H D i sd g
  refine ⟨tSeq (WS F [st]) (WS F rest), fun z => pss_two (ws_ps z) (ws_ps z), ?_⟩
  exact h σ H { D with nx := WS F rest D } i sd ⟨fun σ' H' e x i' s' hI => hr e hI σ' H' D i' s' (g.mono (l.wx x)), fun _ _ _ _ _ _ c => c.elim, fun _ _ _ _ _ _ c => c.elim, fun _ _ _ _ _ _ c => c.elim⟩
theorem bd2_nil {Po : Post} (l : ∀ H, W.I H → V.I H) (m : ∀ a, V.M a → W.M a) (h : Po.nx env) : Bd2 F W V K [] env Po := by
  intro σ H D i sd g
  exact ⟨_, fun z => pss_nil, g.nx σ H env (Wx.refl V H) (l H i) (sd.to fun a _ => m a) h⟩
theorem bd2_ret {e : Expr} {pos : Pos} {rest : List Stmt} {R : Sl → Prop} {Po : Post} (l : ∀ H, W.I H → V.I H) (lm : Wle W V) (m : ∀ a, V.M a → W.M a) (he : Ev F W K e env R) (h : ∀ r, R r → Po.rt r) : Bd2 F W V K (.Return (some e) pos :: rest) env Po := by
  intro σ H D i sd g
  obtain ⟨t, ht, q⟩ := bd_ret (F := F) (W := W) (K := K) (pos := pos) (rest := rest) (Po := { nx := fun _ => False, rt := R }) he (fun r z => z) σ H D i sd ⟨fun _ _ _ _ _ _ c => c.elim, fun v H' r x i' d hr => g.rt v H' r (lm.wx x) (l H' i') (Dv.to (fun a _ => m a) d) (h r hr), fun _ _ _ _ _ _ c => c.elim, fun _ _ _ _ _ _ c => c.elim⟩
  exact ⟨t, ht, q⟩
/-- the world where p is a list that may change, of no known content -/
def Wd.opn (W : Wd) (p : Addr) : Wd where
  M a := W.M a ∨ a = p
  I H := W.I H ∧ H p ≠ none
  has H a i m := by
    rcases m with m | rfl
    · exact W.has H a i.1 m
    · exact i.2
  loc H H' i x := ⟨W.loc H H' i.1 fun a m => x a (Or.inl m), by rw [x p (Or.inr rfl)]; exact i.2⟩
theorem plus_opn {p : Addr} {o : HO} (H : Hp) (i : (W.plus p o).I H) : (W.opn p).I H := ⟨i.1, by rw [i.2]; exact fun c => nomatch c⟩
/-- e is a new list, nothing else knows it -/
def EvF (F : ι → Cx) (W : Wd) (K : PySem.W.Frag) (e : Expr) (env : List Sl) (R : List PyData → Prop) : Prop :=
  ∀ (σ : L2.St) (H : Hp), W.I H → Sd W K H σ env → ∀ Q : VK, (∀ p us ds H', Wx W H H' → W.I H' → ¬ W.M p → H p = none → H' p = some (.lst us) → DnAll (W.opn p) K H' us ds → R ds → Q (.ref p) H') → WE F e σ H Q
theorem evf_nil {pos : Pos} : EvF F W K (.List [] pos) env fun ds => ds = [] := by
  intro σ H i sd Q q
  refine ⟨tLst tNil, fun z => pe_lst pa_nil, ?_⟩
  refine ⟨Nat.zero_le _, fun p hp => ?_⟩
  obtain ⟨n, x2, i2⟩ := W.new (o := .lst []) i hp
  exact q p [] [] _ x2 i2 n hp upd_same .nil rfl
theorem bd_new (fm : Fam P w K mg base N k sc F) {x : Str} {e : Expr} {pos' pos : Pos} {rest : List Stmt} {R : List PyData → Prop} {Po : Post} (j : Nat) (hN : N[j]? = some x) (he : EvF F W K e env R) (hr : ∀ p us ds, ¬ W.M p → R ds → us.length = ds.length → Bd2 F (W.plus p (.lst us)) (W.opn p) K rest (env.set j (.ml p us ds)) Po)
    (hx : locB sc x = true := by decide +kernel) (hs : ∀ i, swapsWith e (some (.Name x pos')) pos.line (F i).env = pure false := by intro _; rfl)
    (hf : ∀ i, (F i).fn x = true ∨ (F i).env.scope.names.lookup x = some .local := by intro _; first | exact Or.inl rfl | exact Or.inr rfl) : Bd F W K (.Assign [.Name x pos'] e pos :: rest) env Po := by
  intro σ H D i sd g
  refine ⟨tSeq (tAsg (WE F e) (gName j)) (WS F rest), fun z => pss_cons (ps_set (by rw [fm.nn z]; exact fm.nd) (by rw [fm.nn z]; exact hN) (loc_of (fm.es z) hx) (we_pe z) (hs z) (hf z)) (ws_ps z), ?_⟩
  refine he σ H i sd _ fun p us ds H1 x1 i1 np hp hl dn hR => ?_
  have wx : Wx (W.plus p (.lst us)) H H1 := fun a o n h => x1 a o (fun m => n (Or.inl m)) h
  have sd1 : Sd (W.plus p (.lst us)) K H σ env := sd.to fun a ha m => by
    rcases m with m | rfl
    · exact m
    · exact absurd hp ha
  have dn1 : DnAll (W.plus p (.lst us)) K H1 us ds := DnAll.to (W := W.opn p) (W' := W.plus p (.lst us)) (fun _ _ m => m) dn
  refine hr p us ds np hR dn.length _ _ _ ⟨i1, hl⟩ (Sd.set (s := .ml p us ds) ⟨rfl, dn1⟩ j (sd1.mono wx)) ?_
  have back : ∀ {H' : Hp}, Wx (W.opn p) H1 H' → Wx W H H' := fun {H'} x2 a o n h => x2 a o (fun m => m.elim n fun z => ne_of_none h hp z) (x1 a o n h)
  exact ⟨fun σ' H' e' x2 i2 s2 hn => g.nx σ' H' e' (back x2) i2.1 (s2.to fun _ _ m => Or.inl m) hn, fun v H' r x2 i2 d2 hr => g.rt v H' r (back x2) i2.1 (Dv.to (fun _ _ m => Or.inl m) d2) hr, fun σ' H' e' x2 i2 s2 hn => g.bk σ' H' e' (back x2) i2.1 (s2.to fun _ _ m => Or.inl m) hn, fun σ' H' e' x2 i2 s2 hn => g.ct σ' H' e' (back x2) i2.1 (s2.to fun _ _ m => Or.inl m) hn⟩
/-! ### reading a list that may change -/
end
section
variable {ι : Type} {F : ι → Cx} {P : Program} {w : World} {K : PySem.W.Frag} {mg : Str → Option Value} {base : Heap} {N : List Str} {k : Nat} {sc : Scope} {W : Wd} {env : List Sl} {p : Addr} {us : List V} {ds : List PyData}
theorem ev_ml (fm : Fam P w K mg base N k sc F) {x : Str} {pos : Pos} (j : Nat) (hN : N[j]? = some x) (he : env[j]? = some (.ml p us ds)) (hv : visB sc x = true := by decide +kernel)
    (hd : (x == ("__debug__" : Str)) = false := by decide) (hc : (x == ("__classdict__" : Str)) = false := by decide) : E1 F W K (.Name x pos) env (.ml p us ds) := by
  intro σ H i sd Q q
  obtain ⟨o, ho, rfl, dn⟩ := sd.get he
  exact ⟨tVar j, fun z => pe_var (by rw [fm.nn z]; exact hN) (vis_of (fm.es z) hv) hd hc, .ref p, ho, q (.ref p) H (.ml p us ds) (Wx.refl W H) i ⟨rfl, dn⟩ rfl⟩
/-- the world knows what stands at p -/
def Has (W : Wd) (p : Addr) (us : List V) : Prop := ∀ H, W.I H → H p = some (.lst us)
theorem has_plus {W : Wd} : Has (W.plus p (.lst us)) p us := fun _ i => i.2
/-- f(x), x such a list -/
theorem ev_callM (fm : Fam P w K mg base N k sc F) {x : Str} {id : String} {q pos : Pos} {e : Expr} {d : PyData} (hI : Has W p us) (he : E1 F W K e env (.ml p us ds)) (hm : mg x = none) (hc : ∀ (H : Hp), H p = some (.lst us) → DnAll W K H us ds → ∃ r u, (∀ i, CallR (F i) (.builtin id) r) ∧ (∀ H, Dn W K H u d) ∧ ∀ Q : VK, Q u H → r [.ref p] H Q) (hv : bootBuiltins x = some (.builtin id) := by decide +kernel)
    (hg : glB sc x = true := by decide +kernel) (hn : x ≠ "__name__" := by decide) (hdb : (x == ("__debug__" : Str)) = false := by decide) (st : ∀ i, starEach (e :: []) (F i).env = (false, eval e (F i).env) :: starEach [] (F i).env := by intro _; rfl) (pl : ∀ i, (backTo pos (starEach [] (F i).env)).any (·.1) = false := by intro _; rfl) :
    E1 F W K (.Call (.Name x q) [e] [] pos) env (.dat d) := by
  intro σ H i sd Q qq
  refine ⟨tCB (WC F (.builtin id)) (tCons (WE F e) tNil), fun z => pe_callB (wc_call z) (gl_of (fm.es z) hg) (by rw [fm.mg z]; exact hm) hv (pa_cons (we_pe z) pa_nil (st z)) hn hdb (st z) (pl z), ?_⟩
  refine he σ H i sd _ fun v H1 r x1 i1 d1 h1 => ?_
  subst h1
  obtain ⟨z, dn⟩ := d1
  cases z
  obtain ⟨r, u, hr, du, hq⟩ := hc H1 (hI H1 i1) dn
  exact ⟨r, hr, hq Q (qq u H1 _ x1 i1 (du H1).dv rfl)⟩
theorem e_lenM (fm : Fam P w K mg base N k sc F) {q pos : Pos} {e : Expr} (hI : Has W p us) (he : E1 F W K e env (.ml p us ds)) (hm : mg "len" = none) (hg : glB sc "len" = true := by decide +kernel) (st : ∀ i, starEach (e :: []) (F i).env = (false, eval e (F i).env) :: starEach [] (F i).env := by intro _; rfl) : E1 F W K (.Call (.Name "len" q) [e] [] pos) env (.dat (.int (ds.length : Int))) :=
  ev_callM fm hI he hm (fun H h dn => ⟨rLn K, .int (ds.length : Int), call_ln fm, fun _ => .int _, fun Q q => ⟨p, us, rfl, .inl (SqL.of h), by rw [dn.length]; exact q⟩⟩) (hg := hg) (st := st)
/-- x[a:b] -/
theorem ev_cutM (fm : Fam P w K mg base N k sc F) {e : Expr} {lo hi : Option Expr} {p1 pos : Pos} {l h : Option Int} (hI : Has W p us) (he : E1 F W K e env (.ml p us ds)) (hl : EvO F W K lo env l) (hh : EvO F W K hi env h) : E1 F W K (.Subscript e (.Slice lo hi none p1) pos) env (.dat (.list (cutD ds l h))) := by
  intro σ H i sd Q q
  obtain ⟨tl, pl, ql⟩ := hl
  obtain ⟨th, ph, qh⟩ := hh
  refine ⟨tSl (rSlL K) (WE F e) tl th, fun z => pe_slice (by have := sl_list (X := F z); rwa [fm.kk z] at this) (we_pe z) (pl z) (ph z), ?_⟩
  refine he σ H i sd _ fun v H1 r x1 i1 d1 h1 => ?_
  subst h1
  refine ql σ H1 i1 (sd.mono x1) _ fun H2 x2 i2 => ?_
  refine qh σ H2 i2 (sd.mono (x1.trans x2)) _ fun H3 x3 i3 => ?_
  obtain ⟨z, rr⟩ := d1
  cases z
  refine ⟨_, _, rfl, SqL.of (hI H3 i3), fun p hp => ?_⟩
  obtain ⟨x4, i4, d4⟩ := new_lst i3 hp (cut_dn (lo := l) (hi := h) ((rr.mono x2).mono x3))
  exact q _ _ _ (((x1.trans x2).trans x3).trans x4) i4 d4.dv rfl
/-- x[i] -/
theorem ev_ixM (fm : Fam P w K mg base N k sc F) {a b : Expr} {pos : Pos} {i : Int} {d : PyData} (hI : Has W p us) (ha : E1 F W K a env (.ml p us ds)) (hb : E1 F W K b env (.dat (.int i))) (e : atI ds i = some d) (hs : PlainIx b := by exact fun _ _ => rfl) : E1 F W K (.Subscript a b pos) env (.dat d) := by
  intro σ H ii sd Q q
  refine ⟨tOp (WX F) (WE F a) (WE F b), fun z => pe_ix (wx_ix z) (we_pe z) (we_pe z) hs, ?_⟩
  refine ha σ H ii sd _ fun v1 H1 r1 x1 i1 d1 h1 => ?_
  subst h1
  refine hb σ H1 i1 (sd.mono x1) _ fun v2 H2 r2 x2 i2 d2 h2 => ?_
  subst h2
  obtain ⟨z, rr⟩ := d1
  cases z
  obtain ⟨u2, z2, n2⟩ := d2
  cases z2
  cases n2
  obtain ⟨v, e2, dn⟩ := atI_dn (rr.mono x2) e
  exact ⟨rIxL K, fun z => by have := ix_list (X := F z); rwa [fm.kk z] at this, _, _, i, v, rfl, rfl, SqL.of (hI H2 i2), e2, q v H2 _ (x1.trans x2) i2 dn.dv rfl⟩
/-- isinstance(x, list) -/
theorem ev_isiM (fm : Fam P w K mg base N k sc F) {e : Expr} {q p2 pos : Pos} {x : Str} {T : String} (hI : Has W p us) (he : E1 F W K e env (.ml p us ds)) (hm : mg "isinstance" = none) (hmT : mg x = none) (hT : KitT T) (hv : bootBuiltins x = some (.type T) := by decide +kernel)
    (hg : glB sc "isinstance" = true := by decide +kernel) (hgT : glB sc x = true := by decide +kernel) (hn : x ≠ "__name__" := by decide) (hdb : (x == ("__debug__" : Str)) = false := by decide)
    (st : ∀ i, starEach (e :: [.Name x p2]) (F i).env = (false, eval e (F i).env) :: starEach [.Name x p2] (F i).env := by intro _; rfl) (pl : ∀ i, (backTo pos (starEach [.Name x p2] (F i).env)).any (·.1) = false := by intro _; rfl) :
    E1 F W K (.Call (.Name "isinstance" q) [e, .Name x p2] [] pos) env (.dat (.bool (isaD T (.list ds)))) := by
  intro σ H i sd Q qq
  refine ⟨tCB (WC F (.builtin "isinstance")) (tCons (WE F e) (tCons (tC (.ty T)) tNil)), fun z => pe_callB (wc_call z) (gl_of (fm.es z) hg) (by rw [fm.mg z]; exact hm) (by decide +kernel) (pa_cons (we_pe z) (pa_cons (pe_bltn (gl_of (fm.es z) hgT) (by rw [fm.mg z]; exact hmT) hv rfl hn hdb) pa_nil (by rfl)) (st z)) (by decide) (by decide) (st z) (pl z), ?_⟩
  refine he σ H i sd _ fun v H1 r x1 i1 d1 h1 => ?_
  subst h1
  obtain ⟨z, n1⟩ := d1
  cases z
  exact ⟨rIsi K, fun z => by have := call_isi (X := F z); rwa [fm.kk z] at this, _, .ty T, _, .type T, _, rfl, .ty T, .base (.lst (hI H1 i1)), hT.of (.list ds), qq _ H1 _ x1 i1 (Dn.dv (.bl _)) rfl⟩
end
end Cr

set_option Elab.async false
set_option linter.all false
set_option maxRecDepth 100000
set_option maxHeartbeats 4000000
namespace Cr
open PySem PySem.Spec PyProof.Rows L2
/-! ## methods of lists and tuples -/
def rCountD (K : PySem.W.Frag) : V → List V → Hp → VK → Prop := fun x xs H Q => ∃ (a : Addr) (y : V) (d : PyData) (ds : List PyData), x = .ref a ∧ xs = [y] ∧ Dp K H (.ref a) (.list ds) ∧ Dp K H y d ∧ PyData.canLayAll0 ds = true ∧ d.canLay0 = true ∧ d.depth ≤ 60 ∧ Q (.int ((ds.countP fun z => PyData.eqv z d : Nat) : Int)) H
theorem mt_countD {X : Cx} (hu : X.A.units + 64 < cLine) : MtR X "list.count" (rCountD X.K) := by
  intro pins s σ H x xs v us Q I rx rxs h
  obtain ⟨a, y, d, ds, rfl, rfl, hl, hy, c1, c2, dd, q⟩ := h
  cases rx
  obtain ⟨u, rfl, ru⟩ := vals1 rxs
  obtain ⟨as, r1⟩ := Dp.reads I _ _ _ hl rfl
  obtain ⟨bs, r2⟩ := Dp.reads I d y u hy ru
  cases r1 with
  | list h1 h2 h3 h4 =>
    refine SeqAt.count_list_data ⟨_, h1, h2, _, h3⟩ h4 r2 (PyData.plainAll_of_canLay0 _ c1) (PyData.plain_of_canLay0 _ c2) (by have : min (PyData.depthAll ds) d.depth ≤ d.depth := Nat.min_le_right _ _; omega) ?_
    exact ⟨.int _, H, I.tok _, ⟨_, rfl⟩, q⟩
section
variable {ι : Type} {F : ι → Cx} {P : Program} {w : World} {K : PySem.W.Frag} {mg : Str → Option Value} {base : Heap} {N : List Str} {k : Nat} {sc : Scope} {W V : Wd} {env : List Sl}
/-- o.count(e), o a list -/
theorem ev_countL (fm : Fam P w K mg base N k sc F) {o e : Expr} {apos pos : Pos} {ds : List PyData} {d : PyData} (ho : E1 F W K o env (.dat (.list ds))) (he : E1 F W K e env (.dat d)) (n1 : NiceAll ds 20) (n2 : Nice d 20) (hb : ∀ i, attributeBase o "count" (F i).env (eval o (F i).env) = eval o (F i).env := by intro _; rfl)
    (hw : ∀ i, ((backTo pos (starEach [e] (F i).env)).all (fun x => !x.1) && (backToKw pos (keywordEach [] (F i).env)).all (fun x => x.1.isSome) && decide ([e].length + ([] : List Keyword).length + (if ([] : List Keyword).isEmpty then 0 else 1) < 30)) = true := by intro _; rfl) (hl : (apos.endLine == pos.line) = true := by rfl)
    (st : ∀ i, starEach [e] (F i).env = (false, eval e (F i).env) :: starEach [] (F i).env := by intro _; rfl) (pl : ∀ i, (backTo pos (starEach [] (F i).env)).any (·.1) = false := by intro _; rfl) :
    E1 F W K (.Call (.Attribute o "count" apos) [e] [] pos) env (.dat (.int ((ds.countP fun z => PyData.eqv z d : Nat) : Int))) := by
  intro σ H i sd Q q
  refine ⟨tBM K "list" (rCountD K) (WE F o) (tCons (WE F e) tNil), fun z => by have := pe_bm PySem.F.plainAttrs_list PySem.F.slot_list_count PySem.F.type_list_count (mt_countD (X := F z) (fm.ro z).units) (we_pe (F := F) (e := o) z) (pa_cons (we_pe (F := F) (e := e) z) pa_nil (st z)) (hb z) (hw z) hl (st z) (pl z); rwa [fm.kk z] at this, ?_⟩
  refine ho σ H i sd _ fun v1 H1 r1 x1 i1 d1 h1 => ?_
  subst h1
  obtain ⟨u, z, n⟩ := d1
  cases z
  cases n with
  | @lst a xs _ la ra =>
    refine ⟨.inl ⟨rfl, xs, la.sq⟩, ?_⟩
    refine he σ H1 i1 (sd.mono x1) _ fun v2 H2 r2 x2 i2 d2 h2 => ?_
    subst h2
    obtain ⟨u2, z2, n2'⟩ := d2
    cases z2
    exact ⟨a, v2, d, ds, rfl, rfl, .lst (la.mono x2).sq (DnAll.dp (DnAll.mono x2 ra) n1.nd), n2'.dp n2.nd, n1.lay, n2.lay, Nat.le_trans n2.dp (by decide), q _ H2 _ (x1.trans x2) i2 (Dn.dv (.int _)) rfl⟩
theorem ev_countM (fm : Fam P w K mg base N k sc F) {o e : Expr} {apos pos : Pos} {p : Addr} {us : List L2.V} {ds : List PyData} {d : PyData} (hI : Has W p us) (ho : E1 F W K o env (.ml p us ds)) (he : E1 F W K e env (.dat d)) (n1 : NiceAll ds 20) (n2 : Nice d 20) (hb : ∀ i, attributeBase o "count" (F i).env (eval o (F i).env) = eval o (F i).env := by intro _; rfl)
    (hw : ∀ i, ((backTo pos (starEach [e] (F i).env)).all (fun x => !x.1) && (backToKw pos (keywordEach [] (F i).env)).all (fun x => x.1.isSome) && decide ([e].length + ([] : List Keyword).length + (if ([] : List Keyword).isEmpty then 0 else 1) < 30)) = true := by intro _; rfl) (hl : (apos.endLine == pos.line) = true := by rfl)
    (st : ∀ i, starEach [e] (F i).env = (false, eval e (F i).env) :: starEach [] (F i).env := by intro _; rfl) (pl : ∀ i, (backTo pos (starEach [] (F i).env)).any (·.1) = false := by intro _; rfl) :
    E1 F W K (.Call (.Attribute o "count" apos) [e] [] pos) env (.dat (.int ((ds.countP fun z => PyData.eqv z d : Nat) : Int))) := by
  intro σ H i sd Q q
  refine ⟨tBM K "list" (rCountD K) (WE F o) (tCons (WE F e) tNil), fun z => by have := pe_bm PySem.F.plainAttrs_list PySem.F.slot_list_count PySem.F.type_list_count (mt_countD (X := F z) (fm.ro z).units) (we_pe (F := F) (e := o) z) (pa_cons (we_pe (F := F) (e := e) z) pa_nil (st z)) (hb z) (hw z) hl (st z) (pl z); rwa [fm.kk z] at this, ?_⟩
  refine ho σ H i sd _ fun v1 H1 r1 x1 i1 d1 h1 => ?_
  subst h1
  obtain ⟨z, ra⟩ := d1
  cases z
  refine ⟨.inl ⟨rfl, us, SqL.of (hI H1 i1)⟩, ?_⟩
  refine he σ H1 i1 (sd.mono x1) _ fun v2 H2 r2 x2 i2 d2 h2 => ?_
  subst h2
  obtain ⟨u2, z2, n2'⟩ := d2
  cases z2
  exact ⟨p, v2, d, ds, rfl, rfl, .lst (SqL.of (hI H2 i2)) (DnAll.dp (DnAll.mono x2 ra) n1.nd), n2'.dp n2.nd, n1.lay, n2.lay, Nat.le_trans n2.dp (by decide), q _ H2 _ (x1.trans x2) i2 (Dn.dv (.int _)) rfl⟩
/-- x.append(e), x a list that may change -/
theorem bd2_append (fm : Fam P w K mg base N k sc F) {x : Str} {e : Expr} {p1 apos pos epos : Pos} {rest : List Stmt} {Po : Post} {W0 : Wd} {p : Addr} {us : List L2.V} {ds : List PyData} {d : PyData} (j : Nat) (hN : N[j]? = some x) (hj : env[j]? = some (.ml p us ds)) (np : ¬ W0.M p) (lw : Wle (W0.plus p (.lst us)) V) (hz : us.length ≤ 1000000)
    (he : E1 F (W0.plus p (.lst us)) K e env (.dat d)) (hr : ∀ v, Bd2 F (W0.plus p (.lst (us ++ [v]))) V K rest (env.set j (.ml p (us ++ [v]) (ds ++ [d]))) Po) (hv : visB sc x = true := by decide +kernel) (hd : (x == ("__debug__" : Str)) = false := by decide) (hc : (x == ("__classdict__" : Str)) = false := by decide)
    (hb : ∀ i, attributeBase (.Name x p1) "append" (F i).env (eval (.Name x p1) (F i).env) = eval (.Name x p1) (F i).env := by intro _; rfl)
    (hw : ∀ i, ((backTo pos (starEach [e] (F i).env)).all (fun x => !x.1) && (backToKw pos (keywordEach [] (F i).env)).all (fun x => x.1.isSome) && decide ([e].length + ([] : List Keyword).length + (if ([] : List Keyword).isEmpty then 0 else 1) < 30)) = true := by intro _; rfl) (hl : (apos.endLine == pos.line) = true := by rfl)
    (st : ∀ i, starEach [e] (F i).env = (false, eval e (F i).env) :: starEach [] (F i).env := by intro _; rfl) (pl : ∀ i, (backTo pos (starEach [] (F i).env)).any (·.1) = false := by intro _; rfl) (sw : ∀ i, swapsWith (.Call (.Attribute (.Name x p1) "append" apos) [e] [] pos) none epos.line (F i).env = pure false := by intro _; rfl) :
    Bd2 F (W0.plus p (.lst us)) V K (.Expr (.Call (.Attribute (.Name x p1) "append" apos) [e] [] pos) epos :: rest) env Po := by
  intro σ H D i sd g
  refine ⟨tSeq (tDrop (tBM K "list" rAppend (tVar j) (tCons (WE F e) tNil))) (WS F rest), fun z => pss_cons (ps_expr (by have := pe_bm (r := rAppend) PySem.F.plainAttrs_list PySem.F.slot_list_append PySem.F.type_list_append (mt_append (X := F z)) (pe_var (X := F z) (i := j) (pos := p1) (by rw [fm.nn z]; exact hN) (vis_of (fm.es z) hv) hd hc) (pa_cons (we_pe (F := F) (e := e) z) pa_nil (st z)) (hb z) (hw z) hl (st z) (pl z); rwa [fm.kk z] at this) (sw z)) (ws_ps z), ?_⟩
  obtain ⟨o, ho, rfl, dn⟩ := sd.get hj
  refine ⟨.ref p, ho, .inl ⟨rfl, us, SqL.of i.2⟩, ?_⟩
  refine he σ H i sd _ fun v H1 r x1 i1 d1 h1 => ?_
  subst h1
  obtain ⟨u, z, n⟩ := d1
  cases z
  refine ⟨p, us, v, rfl, rfl, i1.2, Nat.lt_of_le_of_lt hz (by rw [sizeLine_eq]; decide), ?_⟩
  have keep : ∀ a o, ¬ (W0.plus p (.lst us)).M a → H1 a = some o → upd H1 p (.lst (us ++ [v])) a = some o := fun a o n h => by
    rw [upd_ne fun z => n (Or.inr z)]
    exact h
  have sd2 : Sd (W0.plus p (.lst us)) K (upd H1 p (.lst (us ++ [v]))) σ env := (sd.mono x1).mono keep
  have sd3 : Sd (W0.plus p (.lst (us ++ [v]))) K (upd H1 p (.lst (us ++ [v]))) σ env := Sd.to (W := W0.plus p (.lst us)) (W' := W0.plus p (.lst (us ++ [v]))) (fun _ _ m => m) sd2
  have dn2 : DnAll (W0.plus p (.lst (us ++ [v]))) K (upd H1 p (.lst (us ++ [v]))) (us ++ [v]) (ds ++ [d]) := DnAll.to (W := W0.plus p (.lst us)) (W' := W0.plus p (.lst (us ++ [v]))) (fun _ _ m => m) ((DnAll.mono keep ((DnAll.mono x1 dn).append (.cons n .nil))))
  refine hr v σ _ D ⟨?_, upd_same⟩ ?_ (g.mono (lw.wx (x1.trans keep)))
  · exact W0.loc _ _ i1.1 fun b m => upd_ne fun z => np (z ▸ m)
  · have same : σ.set j (some (.ref p)) = σ := by
      obtain ⟨hj', e'⟩ := List.getElem?_eq_some_iff.mp ho
      rw [← e', List.set_getElem_self]
    have := Sd.set (v := .ref p) (s := .ml p (us ++ [v]) (ds ++ [d])) ⟨rfl, dn2⟩ j sd3
    rwa [same] at this
end
end Cr

set_option Elab.async false
set_option linter.all false
set_option maxRecDepth 100000
set_option maxHeartbeats 4000000
namespace Cr
open PySem PySem.Spec PyProof.Rows L2
/-! ## .index of a text among texts -/
section
variable {ι : Type} {F : ι → Cx} {P : Program} {w : World} {K : PySem.W.Frag} {mg : Str → Option Value} {base : Heap} {N : List Str} {k : Nat} {sc : Scope} {W : Wd} {env : List Sl}
def rTupIx (K : PySem.W.Frag) : V → List V → Hp → VK → Prop := fun x xs H Q => ∃ p, ∃ ys : List Str, ∃ z j, x = .ref p ∧ xs = [.str z] ∧ SqT K H p (ys.map V.str) ∧ ys[j]? = some z ∧ (∀ m, m < j → ys[m]? ≠ some z) ∧ Q (.int (j : Nat)) H
/-- o.index(e), o a written tuple of texts -/
theorem ev_idxT (fm : Fam P w K mg base N k sc F) {o e : Expr} {apos pos : Pos} {a : Addr} {ys : List Str} {z : Str} (j : Nat) (ty : ∃ ob, K.lookup a = some ob ∧ ob.cls = .type "tuple" ∧ ob.dict = none) (sq : SqT K (fun _ => none) a (ys.map V.str)) (ho : E1 F W K o env (.raw (.ref a))) (he : E1 F W K e env (.dat (.str z)))
    (hz : ys[j]? = some z) (hno : ∀ m, m < j → ys[m]? ≠ some z) (hb : ∀ i, attributeBase o "index" (F i).env (eval o (F i).env) = eval o (F i).env := by intro _; rfl)
    (hw : ∀ i, ((backTo pos (starEach [e] (F i).env)).all (fun x => !x.1) && (backToKw pos (keywordEach [] (F i).env)).all (fun x => x.1.isSome) && decide ([e].length + ([] : List Keyword).length + (if ([] : List Keyword).isEmpty then 0 else 1) < 30)) = true := by intro _; rfl) (hl : (apos.endLine == pos.line) = true := by rfl)
    (st : ∀ i, starEach [e] (F i).env = (false, eval e (F i).env) :: starEach [] (F i).env := by intro _; rfl) (pl : ∀ i, (backTo pos (starEach [] (F i).env)).any (·.1) = false := by intro _; rfl) :
    E1 F W K (.Call (.Attribute o "index" apos) [e] [] pos) env (.dat (.int (j : Nat))) := by
  intro σ H i sd Q q
  refine ⟨tBM K "tuple" (rTupIx K) (WE F o) (tCons (WE F e) tNil), fun z => by have := pe_bm PySem.F.plainAttrs_tuple PySem.F.slot_tuple_index PySem.F.type_tuple_index (mt_tup_index (X := F z)) (we_pe (F := F) (e := o) z) (pa_cons (we_pe (F := F) (e := e) z) pa_nil (st z)) (hb z) (hw z) hl (st z) (pl z); rwa [fm.kk z] at this, ?_⟩
  refine ho σ H i sd _ fun v1 H1 r1 x1 i1 d1 h1 => ?_
  subst h1
  cases (show some v1 = some (V.ref a) from d1)
  refine ⟨.inr (.inl ⟨rfl, ty⟩), ?_⟩
  refine he σ H1 i1 (sd.mono x1) _ fun v2 H2 r2 x2 i2 d2 h2 => ?_
  subst h2
  obtain ⟨u2, z2, n2⟩ := d2
  cases z2
  cases n2
  have sq2 : SqT K H2 a (ys.map V.str) := by
    rcases sq with c | c
    · exact (rd_none c).elim
    · exact .inr c
  exact ⟨a, ys, z, j, rfl, rfl, sq2, hz, hno, q _ H2 _ (x1.trans x2) i2 (Dn.dv (.int _)) rfl⟩
/-- o.index(e), o a list of texts -/
theorem ev_idxL (fm : Fam P w K mg base N k sc F) {o e : Expr} {apos pos : Pos} {ys : List Str} {z : Str} (j : Nat) (ho : E1 F W K o env (.dat (.list (ys.map .str)))) (he : E1 F W K e env (.dat (.str z)))
    (hz : ys[j]? = some z) (hno : ∀ m, m < j → ys[m]? ≠ some z) (hb : ∀ i, attributeBase o "index" (F i).env (eval o (F i).env) = eval o (F i).env := by intro _; rfl)
    (hw : ∀ i, ((backTo pos (starEach [e] (F i).env)).all (fun x => !x.1) && (backToKw pos (keywordEach [] (F i).env)).all (fun x => x.1.isSome) && decide ([e].length + ([] : List Keyword).length + (if ([] : List Keyword).isEmpty then 0 else 1) < 30)) = true := by intro _; rfl) (hl : (apos.endLine == pos.line) = true := by rfl)
    (st : ∀ i, starEach [e] (F i).env = (false, eval e (F i).env) :: starEach [] (F i).env := by intro _; rfl) (pl : ∀ i, (backTo pos (starEach [] (F i).env)).any (·.1) = false := by intro _; rfl) :
    E1 F W K (.Call (.Attribute o "index" apos) [e] [] pos) env (.dat (.int (j : Nat))) := by
  have sn : ∀ {H : Hp} {ys : List Str} {xs : List V}, DnAll W K H xs (ys.map .str) → xs = ys.map V.str := by
    intro H ys
    induction ys with
    | nil =>
      intro xs h
      cases h
      rfl
    | cons y ys ih =>
      intro xs h
      cases h with
      | cons a t =>
        cases a
        rw [ih t]
        rfl
  intro σ H i sd Q q
  refine ⟨tBM K "list" (rIndex K) (WE F o) (tCons (WE F e) tNil), fun z => by have := pe_bm PySem.F.plainAttrs_list PySem.F.slot_list_index PySem.F.type_list_index (mt_index (X := F z)) (we_pe (F := F) (e := o) z) (pa_cons (we_pe (F := F) (e := e) z) pa_nil (st z)) (hb z) (hw z) hl (st z) (pl z); rwa [fm.kk z] at this, ?_⟩
  refine ho σ H i sd _ fun v1 H1 r1 x1 i1 d1 h1 => ?_
  subst h1
  obtain ⟨u, zz, n⟩ := d1
  cases zz
  cases n with
  | @lst a xs _ la ra =>
    have ex := sn ra
    subst ex
    refine ⟨.inl ⟨rfl, _, la.sq⟩, ?_⟩
    refine he σ H1 i1 (sd.mono x1) _ fun v2 H2 r2 x2 i2 d2 h2 => ?_
    subst h2
    obtain ⟨u2, z2, n2⟩ := d2
    cases z2
    cases n2
    refine ⟨a, ys.map V.str, .str z, j, .str z, rfl, rfl, (la.mono x2).sq, rfl, List.all_eq_true.mpr (fun y hy => by obtain ⟨s, _, rfl⟩ := List.mem_map.mp hy; rfl), by rw [List.getElem?_map, hz]; rfl, decide_eq_true rfl, fun m z' hm hz' => ?_, q _ H2 _ (x1.trans x2) i2 (Dn.dv (.int _)) rfl⟩
    rw [List.getElem?_map] at hz'
    cases hq : ys[m]? with
    | none =>
      rw [hq] at hz'
      cases hz'
    | some y =>
      rw [hq] at hz'
      cases hz'
      have : y ≠ z := fun c => hno m hm (by rw [hq, c])
      exact decide_eq_false this
end
end Cr

set_option Elab.async false
set_option linter.all false
set_option maxRecDepth 100000
set_option maxHeartbeats 4000000
namespace Cr
open PySem PySem.Spec PyProof.Rows L2
section
variable {ι : Type} {F : ι → Cx} {P : Program} {w : World} {K : PySem.W.Frag} {mg : Str → Option Value} {base : Heap} {N : List Str} {k : Nat} {sc : Scope} {W V : Wd} {env : List Sl}
/-- a block that may add to the list at p: Nx tells what it leaves -/
def BdX (F : ι → Cx) (W0 : Wd) (K : PySem.W.Frag) (p : Addr) (us : List L2.V) (ss : List Stmt) (env : List Sl) (Nx : List L2.V → List Sl → Prop) : Prop :=
  ∀ (σ : L2.St) (H : Hp) (D : Ends), (W0.plus p (.lst us)).I H → Sd (W0.plus p (.lst us)) K H σ env → (∀ us' σ' H' e, Wx (W0.opn p) H H' → (W0.plus p (.lst us')).I H' → Sd (W0.plus p (.lst us')) K H' σ' e → Nx us' e → D.nx σ' H') → WS F ss D σ H
theorem plus_le {W0 : Wd} {p : Addr} {o : HO} : Wle (W0.plus p o) (W0.opn p) := fun _ m => m
/-- .. by one append -/
theorem bdx_append (fm : Fam P w K mg base N k sc F) {x : Str} {e : Expr} {p1 apos pos epos : Pos} {W0 : Wd} {p : Addr} {us : List L2.V} {ds : List PyData} {d : PyData} {Nx : List L2.V → List Sl → Prop} (j : Nat) (hN : N[j]? = some x) (hj : env[j]? = some (.ml p us ds)) (np : ¬ W0.M p) (hz : us.length ≤ 1000000)
    (he : E1 F (W0.plus p (.lst us)) K e env (.dat d)) (hr : ∀ v, Nx (us ++ [v]) (env.set j (.ml p (us ++ [v]) (ds ++ [d])))) (hv : visB sc x = true := by decide +kernel) (hd : (x == ("__debug__" : Str)) = false := by decide) (hc : (x == ("__classdict__" : Str)) = false := by decide)
    (hb : ∀ i, attributeBase (.Name x p1) "append" (F i).env (eval (.Name x p1) (F i).env) = eval (.Name x p1) (F i).env := by intro _; rfl)
    (hw : ∀ i, ((backTo pos (starEach [e] (F i).env)).all (fun x => !x.1) && (backToKw pos (keywordEach [] (F i).env)).all (fun x => x.1.isSome) && decide ([e].length + ([] : List Keyword).length + (if ([] : List Keyword).isEmpty then 0 else 1) < 30)) = true := by intro _; rfl) (hl : (apos.endLine == pos.line) = true := by rfl)
    (st : ∀ i, starEach [e] (F i).env = (false, eval e (F i).env) :: starEach [] (F i).env := by intro _; rfl) (pl : ∀ i, (backTo pos (starEach [] (F i).env)).any (·.1) = false := by intro _; rfl) (sw : ∀ i, swapsWith (.Call (.Attribute (.Name x p1) "append" apos) [e] [] pos) none epos.line (F i).env = pure false := by intro _; rfl) :
    BdX F W0 K p us [.Expr (.Call (.Attribute (.Name x p1) "append" apos) [e] [] pos) epos] env Nx := by
  intro σ H D i sd g
  refine ⟨tSeq (tDrop (tBM K "list" rAppend (tVar j) (tCons (WE F e) tNil))) tNext, fun z => pss_cons (ps_expr (by have := pe_bm (r := rAppend) PySem.F.plainAttrs_list PySem.F.slot_list_append PySem.F.type_list_append (mt_append (X := F z)) (pe_var (X := F z) (i := j) (pos := p1) (by rw [fm.nn z]; exact hN) (vis_of (fm.es z) hv) hd hc) (pa_cons (we_pe (F := F) (e := e) z) pa_nil (st z)) (hb z) (hw z) hl (st z) (pl z); rwa [fm.kk z] at this) (sw z)) pss_nil, ?_⟩
  obtain ⟨o, ho, rfl, dn⟩ := sd.get hj
  refine ⟨.ref p, ho, .inl ⟨rfl, us, SqL.of i.2⟩, ?_⟩
  refine he σ H i sd _ fun v H1 r x1 i1 d1 h1 => ?_
  subst h1
  obtain ⟨u, z, n⟩ := d1
  cases z
  refine ⟨p, us, v, rfl, rfl, i1.2, Nat.lt_of_le_of_lt hz (by rw [sizeLine_eq]; decide), ?_⟩
  have keep : ∀ a o, ¬ (W0.plus p (.lst us)).M a → H1 a = some o → upd H1 p (.lst (us ++ [v])) a = some o := fun a o n h => by
    rw [upd_ne fun z => n (Or.inr z)]
    exact h
  have sd2 : Sd (W0.plus p (.lst us)) K (upd H1 p (.lst (us ++ [v]))) σ env := (sd.mono x1).mono keep
  have sd3 : Sd (W0.plus p (.lst (us ++ [v]))) K (upd H1 p (.lst (us ++ [v]))) σ env := Sd.to (W := W0.plus p (.lst us)) (W' := W0.plus p (.lst (us ++ [v]))) (fun _ _ m => m) sd2
  have dn2 : DnAll (W0.plus p (.lst (us ++ [v]))) K (upd H1 p (.lst (us ++ [v]))) (us ++ [v]) (ds ++ [d]) := DnAll.to (W := W0.plus p (.lst us)) (W' := W0.plus p (.lst (us ++ [v]))) (fun _ _ m => m) ((DnAll.mono keep ((DnAll.mono x1 dn).append (.cons n .nil))))
  refine g (us ++ [v]) σ _ _ (x1.trans keep) ⟨W0.loc _ _ i1.1 fun b m => upd_ne fun z => np (z ▸ m), upd_same⟩ ?_ (hr v)
  have same : σ.set j (some (.ref p)) = σ := by
    obtain ⟨hj', e'⟩ := List.getElem?_eq_some_iff.mp ho
    rw [← e', List.set_getElem_self]
  have := Sd.set (v := .ref p) (s := .ml p (us ++ [v]) (ds ++ [d])) ⟨rfl, dn2⟩ j sd3
  rwa [same] at this
/-- for tg in a tuple, where each turn may add to the list at p -/
theorem bd2_forT (fm : Fam P w K mg base N k sc F) {tg a : Expr} {pos : Pos} {body rest : List Stmt} {Po : Post} {ts : List PyData} {W0 : Wd} {p : Addr} {us0 : List L2.V} (Iv : Nat → List L2.V → List Sl → Prop) (ha : E1 F (W0.plus p (.lst us0)) K a env (.dat (.tuple ts))) (h0 : Iv 0 us0 env)
    (hs : ∀ (i : Nat) d us env1, ts[i]? = some d → Iv i us env1 → ∃ env2, Tg F (W0.plus p (.lst us)) K tg (.dat d) env1 env2 ∧ BdX F W0 K p us body env2 (Iv (i + 1))) (hd : ∀ us env1, Iv ts.length us env1 → Bd2 F (W0.plus p (.lst us)) (W0.opn p) K rest env1 Po)
    (hp : ∀ i, PassesOwn (model (F i).prog (F i).w) (F i).A (F i).env (F i).xe := by intro _; exact PassesOwn.never) (hf : ∀ i x, foldedSetIterable a (F i).env x = pure x := by intro _ _; rfl) : Bd2 F (W0.plus p (.lst us0)) (W0.opn p) K (.For tg a body [] pos :: rest) env Po := by
  intro σ H D ii sd g
  refine ⟨tSeq (tFor (iTup K (WE F a)) (WG F tg) (WS F body)) (WS F rest), fun z => pss_cons (ps_for (hp z) (fm.ca z) (by have := pi_tup (tg := tg) (we_pe (F := F) (e := a) z); rwa [fm.kk z] at this) (wg_pg z) (ws_ps z) (hf z)) (ws_ps z), ?_⟩
  refine ha σ H ii sd _ fun v H1 r x1 i1 d1 h1 => ?_
  subst h1
  obtain ⟨u, e, dn⟩ := d1
  cases e
  cases dn with
  | @tup ad xs _ la da =>
    have lo : ∀ {H'}, Wx (W0.opn p) H1 H' → TA' (W0.plus p (.lst us0)) K H' ad xs := fun {H'} x' => la.mono fun a o n h => x' a o n h
    have dk : ∀ {H' v d} (us : List L2.V), Wx (W0.opn p) H1 H' → Dn (W0.plus p (.lst us0)) K H1 v d → Dn (W0.plus p (.lst us)) K H' v d := fun {H' v d} us x' h => Dn.to (W := W0.plus p (.lst us0)) (W' := W0.plus p (.lst us)) (fun _ _ m => m) (Dn.mono (W := W0.plus p (.lst us0)) (H := H1) (H' := H') (fun a o n h => x' a o n h) h)
    refine ⟨ad, rfl, ⟨xs, la.sq⟩, for_tup (D := { D with nx := WS F rest D }) (fun i σ' H' => ∃ us e, Wx (W0.opn p) H1 H' ∧ (W0.plus p (.lst us)).I H' ∧ Sd (W0.plus p (.lst us)) K H' σ' e ∧ Iv i us e) ⟨us0, env, Wx.refl _ H1, i1, sd.mono x1, h0⟩ (fun i σ' H' _ ⟨_, _, x', _⟩ => (lo x').sq) ?_ ?_⟩
    · intro i x σ' H' hx ⟨us, e, x', i', s', iv⟩
      obtain ⟨d, hd2, dn⟩ := da.getV hx
      obtain ⟨env2, ht, hb⟩ := hs i d us e hd2 iv
      refine ht x σ' H' i' s' (dk us x' dn).dv _ fun σ2 H2 x2 i2 s2 => ?_
      exact hb σ2 H2 _ i2 s2 fun us' σ3 H3 e3 y j s3 h3 => ⟨us', e3, (x'.trans x2).trans y, j, s3, h3⟩
    · intro σ' H' ⟨us, e, x', i', s', iv⟩
      rw [da.length] at iv
      exact hd us e iv σ' H' D i' s' (g.mono (x1.trans x'))
end
end Cr

set_option Elab.async false
set_option linter.all false
set_option maxRecDepth 100000
set_option maxHeartbeats 4000000
namespace Cr
open PySem PySem.Spec PyProof.Rows L2
section
variable {ι : Type} {F : ι → Cx} {P : Program} {w : World} {K : PySem.W.Frag} {mg : Str → Option Value} {base : Heap} {N : List Str} {k : Nat} {sc : Scope} {W : Wd} {env : List Sl}
/-- for a, b in zip(x, y), lists of data -/
theorem bd_forZ (fm : Fam P w K mg base N k sc F) {elts : List Expr} {kk : Nat} {tpos p pos fpos : Pos} {e e2 : Expr} {body rest : List Stmt} {Po : Post} {ds es : List PyData} (Iv : Nat → List Sl → Prop) (ha : A1 F W K [e, e2] env [.list ds, .list es]) (hm : mg "zip" = none) (h0 : Iv 0 env)
    (hs : ∀ (i : Nat) d d' env1, ds[i]? = some d → es[i]? = some d' → Iv i env1 → ∃ env2, Tg F W K (.Tuple elts kk tpos) (.dat (.tuple [d, d'])) env1 env2 ∧ Bd F W K body env2 { nx := Iv (i + 1), ct := Iv (i + 1), rt := Po.rt }) (hd : ∀ env1, Iv (min ds.length es.length) env1 → Bd F W K rest env1 Po) (hg : glB sc "zip" = true := by decide +kernel)
    (st : ∀ i, starEach [e, e2] (F i).env = (false, eval e (F i).env) :: starEach [e2] (F i).env := by intro _; rfl) (pl : ∀ i, (backTo pos (starEach [e2] (F i).env)).any (·.1) = false := by intro _; rfl)
    (hp : ∀ i, PassesOwn (model (F i).prog (F i).w) (F i).A (F i).env (F i).xe := by intro _; exact PassesOwn.never) (hf : ∀ i x, foldedSetIterable (.Call (.Name "zip" p) [e, e2] [] pos) (F i).env x = pure x := by intro _ _; rfl) : Bd F W K (.For (.Tuple elts kk tpos) (.Call (.Name "zip" p) [e, e2] [] pos) body [] fpos :: rest) env Po := by
  intro σ H D ii sd g
  refine ⟨tSeq (tFor (iZip K (WA F [e, e2])) (WG F (.Tuple elts kk tpos)) (WS F body)) (WS F rest), fun z => pss_cons (ps_for (hp z) (fm.ca z) (by have := pi_zip (X := F z) (elts := elts) (kk := kk) (tpos := tpos) (p := p) (pos := pos) (gl_of (fm.es z) hg) (by rw [fm.mg z]; exact hm) (wa_pa (F := F) (es := [e, e2]) z) (st z) (pl z); rwa [fm.kk z] at this) (wg_pg z) (ws_ps z) (hf z)) (ws_ps z), ?_⟩
  refine ha σ H ii sd _ fun vs H1 rs x1 i1 d1 h1 => ?_
  subst h1
  have dn := dn_of_sd d1
  cases dn with
  | cons a t =>
    cases t with
    | cons b t =>
      cases t
      cases a with
      | @lst pa xs _ la da =>
        cases b with
        | @lst pb ys _ lb db =>
          have hn : min ds.length es.length = min xs.length ys.length := by rw [da.length, db.length]
          refine ⟨pa, pb, xs, ys, rfl, la.sq, lb.sq, for_it (walk_zip hn) (D := { D with nx := WS F rest D }) (fun i σ' H' => ∃ e, Wx W H1 H' ∧ W.I H' ∧ Sd W K H' σ' e ∧ Iv i e) ⟨env, Wx.refl W H1, i1, sd.mono x1, h0⟩ (fun i σ' H' _ ⟨e, x', _⟩ => ⟨(la.mono x').sq, (lb.mono x').sq⟩) ?_ ?_⟩
          · rintro i x σ' H' H2 hi ⟨e, x', i', s', iv⟩ ⟨T, u, v, rfl, hT, rfl, hx, hy⟩
            obtain ⟨d, hd1, dn1⟩ := da.getV hx
            obtain ⟨d', hd2, dn2⟩ := db.getV hy
            obtain ⟨env2, ht, hb⟩ := hs i d d' e hd1 hd2 iv
            obtain ⟨x3, i3, dT⟩ := new_tup (K := K) (vs := [u, v]) (ds := [d, d']) i' hT (.cons (dn1.mono x') (.cons (dn2.mono x') .nil))
            refine ht _ σ' _ i3 (s'.mono x3) dT.dv _ fun σ2 H2 x2 i2 s2 => ?_
            have xx := (x'.trans x3).trans x2
            exact hb σ2 H2 _ i2 s2 ⟨fun σ3 H3 e3 y j s3 h3 => ⟨e3, xx.trans y, j, s3, h3⟩, fun v H3 r y => g.rt v H3 r (x1.trans (xx.trans y)), fun σ3 H3 e3 y j s3 h3 => h3.elim, fun σ3 H3 e3 y j s3 h3 => ⟨e3, xx.trans y, j, s3, h3⟩⟩
          · intro σ' H' ⟨e, x', i', s', iv⟩
            exact hd e iv σ' H' D i' s' (g.mono (x1.trans x'))
/-- a def from data to a new list -/
def spNew (K : PySem.W.Frag) (Pre : List PyData → Prop) (Rn : List PyData → List PyData → Prop) : Sp := fun vs H Q _ => ∃ (W : Wd) (ds : List PyData), W.I H ∧ DnAll W K H vs ds ∧ Pre ds ∧ ∀ p us es H', Rn ds es → Xt H H' → H p = none → H' p = some (.lst us) → DnAll (W.opn p) K H' us es → Q (.ref p) H'
theorem evf_new (fm : Fam P w K mg base N k sc F) {x : Str} {j : Nat} {ps : List Str} {Pre : List PyData → Prop} {Rn : List PyData → List PyData → Prop} {q pos : Pos} {e : Expr} {es : List Expr} {ds : List PyData} (o : Own P w K mg base x j ps (spNew K Pre Rn)) (hj : j ≤ k) (ha : A1 F W K (e :: es) env ds) (hr : Pre ds)
    (hg : glB sc x = true := by decide +kernel) (hdb : (x == ("__debug__" : Str)) = false := by decide) (st : ∀ i, starEach (e :: es) (F i).env = (false, eval e (F i).env) :: starEach es (F i).env := by intro _; rfl) (pl : ∀ i, (backTo pos (starEach es (F i).env)).any (·.1) = false := by intro _; rfl) :
    EvF F W K (.Call (.Name x q) (e :: es) [] pos) env (Rn ds) := by
  obtain ⟨f, fd, hm, hk, hb, G⟩ := o.ex
  intro σ H i sd Q qq
  refine ⟨tCall (spNew K Pre Rn) [] E0 (WA F (e :: es)), fun z => ?_, ?_⟩
  · have GG : FnG (F z).prog (F z).w (F z).K (F z).mg (F z).base j f fd ps (spNew K Pre Rn) := by rw [fm.pr z, fm.wo z, fm.kk z, fm.mg z, fm.ba z]; exact G
    exact pe_callG GG (fm.gu z) ((fm.ro z).mono hj) (gl_of (fm.es z) hg) (by rw [fm.mg z]; exact hm) (by rw [fm.kk z]; exact hk) (by rw [fm.kk z]; exact hb) .nil (wa_pa z) E0 hdb (st z) (pl z)
  · refine ha σ H i sd _ fun vs H1 rs x1 i1 d1 h1 => ?_
    subst h1
    show spNew K Pre Rn (vs ++ []) H1 Q E0
    rw [List.append_nil]
    refine ⟨W, ds, i1, dn_of_sd d1, hr, fun p us es H' hR xt hp hl dn => ?_⟩
    refine qq p us es H' (x1.trans (xt.wx W)) (W.mono _ _ i1 xt) (fun m => W.has H1 p i1 m hp) ?_ hl dn hR
    match hq : H p with
    | none => rfl
    | some o => exact absurd (x1 p o (fun m => W.has H1 p i1 m hp) hq) (by rw [hp]; exact fun c => nomatch c)
/-- the value alone, where its newness is of no matter -/
theorem ev_new (fm : Fam P w K mg base N k sc F) {x : Str} {j : Nat} {ps : List Str} {Pre : List PyData → Prop} {Rn : List PyData → List PyData → Prop} {q pos : Pos} {e : Expr} {es : List Expr} {ds : List PyData} (o : Own P w K mg base x j ps (spNew K Pre Rn)) (hj : j ≤ k) (ha : A1 F W K (e :: es) env ds) (hr : Pre ds)
    (hg : glB sc x = true := by decide +kernel) (hdb : (x == ("__debug__" : Str)) = false := by decide) (st : ∀ i, starEach (e :: es) (F i).env = (false, eval e (F i).env) :: starEach es (F i).env := by intro _; rfl) (pl : ∀ i, (backTo pos (starEach es (F i).env)).any (·.1) = false := by intro _; rfl) :
    Ev F W K (.Call (.Name x q) (e :: es) [] pos) env fun s => ∃ es, s = .dat (.list es) ∧ Rn ds es := by
  intro σ H i sd Q qq
  refine evf_new (W := W) (pos := pos) (q := q) fm o hj ha hr hg hdb st pl σ H i sd Q fun p us es H' xx i' np _ hl dn hR => ?_
  exact qq _ H' _ xx i' (Dn.dv (.lst ⟨np, hl⟩ (DnAll.to (W := W.opn p) (W' := W) (fun _ _ m => Or.inl m) dn))) ⟨es, rfl, hR⟩
theorem evf_sortK (fm : Fam P w K mg base N k sc F) {g xp : Str} {j : Nat} {Fn : List PyData → PyData → Prop} {e : Expr} {p p2 p3 pos : Pos} {ds : List PyData} (key : PyData → PyData) (o : Own P w K mg base g j [xp] (spF K Fn)) (hj : j + 2 ≤ k) (he : E1 F W K e env (.dat (.list ds)))
    (hF : ∀ d ∈ ds, Fn [d] (key d)) (hal : PySem.W.AllAlike (ds.map key)) (hsk : PySem.W.Sortable (ds.map key)) (hno : ∀ d ∈ ds, noDict (key d) = true ∧ (key d).depth ≤ 60) (hm : mg "sorted" = none) (hg : glB sc "sorted" = true := by decide +kernel) (hgg : glB sc g = true := by decide +kernel) (hdb : (g == ("__debug__" : Str)) = false := by decide)
    (st : ∀ i, backTo pos (starEach [e] (F i).env) = (false, eval e (F i).env) :: backTo pos (starEach [] (F i).env) := by intro _; rfl) (pl : ∀ i, (backTo pos (starEach [e] (F i).env)).any (·.1) = false := by intro _; rfl) (st2 : ∀ i, starEach [e] (F i).env = (false, eval e (F i).env) :: starEach [] (F i).env := by intro _; rfl)
    (q1 : ∀ i, (backToKw pos (keywordEach [⟨some "key", .Name g p2, p3⟩] (F i).env)).all (·.1.isSome) = true := by intro _; rfl) (q2 : ∀ i, (backToKw pos (keywordEach [⟨some "key", .Name g p2, p3⟩] (F i).env)).any (·.1.isNone) = false := by intro _; rfl) (q3 : ∀ i, (backToKw pos (keywordEach [⟨some "key", .Name g p2, p3⟩] (F i).env)).filterMap (·.1) = [Str.ofString "key"] := by intro _; rfl) :
    EvF F W K (.Call (.Name "sorted" p) [e] [⟨some "key", .Name g p2, p3⟩] pos) env fun es => es.Perm ds ∧ es.Pairwise fun a b => keyLe key a b = true := by
  obtain ⟨f, fd, hmg, hk, hb, G⟩ := o.ex
  intro σ H i sd Q q
  refine ⟨tCKw (rSortK W K f Fn) (tCons (WE F e) tNil) (tCons (tC (.ref f)) tNil), fun z => ?_, ?_⟩
  · have GG : FnG (F z).prog (F z).w (F z).K (F z).mg (F z).base j f fd [xp] (spF (F z).K Fn) := by rw [fm.pr z, fm.wo z, fm.kk z, fm.mg z, fm.ba z]; exact G
    have C := call_sortK (W := W) GG (fm.gu z) ((fm.ro z).mono hj) (by rw [fm.kk z]; exact hb)
    rw [fm.kk z] at C
    exact pe_callBK C (gl_of (fm.es z) hg) (by rw [fm.mg z]; exact hm) (by decide +kernel) (pa_cons (we_pe z) pa_nil (st2 z)) (pk_cons (pe_glob (gl_of (fm.es z) hgg) (by rw [fm.mg z]; exact hmg) rfl hdb) pk_nil) (by decide) (by decide) (st z) (pl z) (q1 z) (q2 z) (q3 z)
  · refine he σ H i sd _ fun v H1 r x1 i1 d1 h1 => ?_
    subst h1
    obtain ⟨u, z, n1⟩ := d1
    cases z
    cases n1 with
    | @lst _ xs _ a ra =>
      refine ⟨_, xs, ds, key, rfl, rfl, a.sq, ra, i1, hF, hal, hsk, hno, fun zs p H2 ez xt hp dn => ?_⟩
      have iH2 := W.mono _ _ i1 xt
      obtain ⟨np, x2, i2⟩ := W.new (o := .lst (zs.map (·.1))) iH2 hp
      have old : H p = none := by
        match hq : H p with
        | none => rfl
        | some o => exact absurd ((x1.trans (xt.wx W)) p o np hq) (by rw [hp]; exact fun c => nomatch c)
      have dn2 : DnAll (W.opn p) K H2 (zs.map (·.1)) (zs.map (·.2)) := DnAll.to (W := W) (W' := W.opn p) (fun a ha m => by
        rcases m with m | rfl
        · exact m
        · exact absurd hp ha) dn
      refine q p _ _ _ ((x1.trans (xt.wx W)).trans x2) i2 np old upd_same (DnAll.mono ((Xt.new hp).wx _) dn2) ⟨?_, ?_⟩
      · have e2 : (xs.zip ds).map Prod.snd = ds := List.map_snd_zip (Nat.le_of_eq ra.length.symm)
        have := (List.mergeSort_perm (xs.zip ds) (PySem.W.dataLe false fun q => key q.2)).map Prod.snd
        rw [e2] at this
        rw [ez]
        exact this
      · rw [ez, List.pairwise_map]
        exact PySem.W.sort_pairwise (le := PySem.W.dataLe false fun q : V × PyData => key q.2) (PySem.W.sortLe_total _ _ _) (xs.zip ds)
end
section
variable {P : Program} {w : World} {K : PySem.W.Frag} {mg : Str → Option Value} {base : Heap} {k : Nat} {x qual : Str} {st : Stmt} {f : Addr} {fd : FuncData} {N ps : List Str}
theorem fn_new {Pre : List PyData → Prop} {Rn : List PyData → List PyData → Prop} {e : Expr} {pos : Pos} (Fu : Fun K x qual st f fd) (S : FnScope N ps (defScope st)) (len : ∀ ds, Pre ds → ds.length = ps.length) (hb : defBody st = [.Return (some e) pos])
    (body : ∀ (cdv : Value) (A : Around) (fr : List Env) (s : Shared) (H : Hp) (E : XK) (W : Wd) (ds : List PyData), Fam P w K mg base N k (defScope st) (DF P w K mg base N qual (defScope st) f cdv A fr s H E) → Pre ds →
      EvF (DF P w K mg base N qual (defScope st) f cdv A fr s H E) W K e (startE N (ds.map .dat)) (Rn ds)) : FnG P w K mg base (k + 1) f fd ps (spNew K Pre Rn) := by
  obtain ⟨oc, od, kV, doc, pm, an, cdv, ct, osl, rfl, lk, hcd⟩ := Fu.ex
  refine fnG_of lk hcd S (fun vs H Q E ⟨W, ds, _, dn, hp, _⟩ => by rw [dn.length]; exact len ds hp) fun A fr s H vs Q E g hr hsp => ?_
  obtain ⟨W, ds, i, dn, hp, q⟩ := hsp
  have fm : Fam P w K mg base N k (defScope st) (DF P w K mg base N qual (defScope st) f cdv A fr s H E) := ⟨fun _ => rfl, S.kind, fun _ => rfl, fun _ => rfl, fun _ => rfl, fun _ => rfl, fun _ => rfl, fun _ => rfl, S.nd, fun _ => rfl, fun _ => g, fun _ => hr⟩
  refine ⟨WS (DF P w K mg base N qual (defScope st) f cdv A fr s H E) (defBody st), PSs.nox (X := cxOf CXn P w K mg base N qual (defScope st) f cdv A fr s H E) (ws_ps (F := DF P w K mg base N qual (defScope st) f cdv A fr s H E) ()), ?_⟩
  rw [hb]
  refine ⟨tSeq (tRet (WE (DF P w K mg base N qual (defScope st) f cdv A fr s H E) e)) tNext, fun z => pss_cons (ps_ret (we_pe z)) pss_nil, ?_⟩
  have same : ∀ a, H a ≠ none → (W.lock H).M a → W.M a := fun _ _ m => m
  exact body cdv A fr s H E (W.lock H) ds fm hp _ H ⟨i, fun _ _ => rfl⟩ (start_sd (sd_of_dn (dn.to same))) Q fun p us es H' xx ii np h0 hl dn' hR => q p us es H' hR (lock_xt xx ii) h0 hl (DnAll.to (W := (W.lock H).opn p) (W' := W.opn p) (fun _ _ m => m) dn')
end
end Cr

set_option Elab.async false
set_option linter.all false
set_option maxRecDepth 100000
set_option maxHeartbeats 4000000
namespace Cr
open PySem PySem.Spec PyProof.Rows L2
section
variable {ι : Type} {F : ι → Cx} {P : Program} {w : World} {K : PySem.W.Frag} {mg : Str → Option Value} {base : Heap} {N : List Str} {k : Nat} {sc : Scope} {W : Wd} {env : List Sl}
theorem lc_readRN {elt a : Expr} {ifs : List Expr} {scope : Scope} {j : Nat} {f : Nat → Bool} {R : Nat → PyData → Prop} (hi : EvA F W K [a] env fun rs => ∃ n : Nat, rs = [.dat (.int (n : Int))] ∧ n ≤ 1000)
    (ht : ∀ (i : Nat) D acc, ¬ W.M D → EvIf (FB F scope) (W.plus D (.lst acc)) K ifs ((env.set j .any).set j (.dat (.int (i : Int)))) (f i))
    (he : ∀ (i : Nat) D acc, f i = true → ¬ W.M D → Ev (FB F scope) (W.plus D (.lst acc)) K elt ((env.set j .any).set j (.dat (.int (i : Int)))) fun s => ∃ e, s = .dat e ∧ R i e)
    (σ : L2.St) (H : Hp) (ii : W.I H) (sd : Sd W K H σ env) (Q : VK) (q : ∀ v H' (n : Nat) es, n ≤ 1000 → Wx W H H' → W.I H' → Dn W K H' v (.list es) → Paired (fun i e => R i e) ((List.range n).filter f) es → Q v H') :
    tLc (iRng1 (WA F [a])) (gName j) (WTs (FB F scope) ifs) (WE (FB F scope) elt) [j] σ H Q := by
  refine hi σ H ii sd _ fun vs H1 r x1 i1 d1 h1 => ?_
  obtain ⟨n, rfl, hz⟩ := h1
  match vs, d1 with
  | [v], ⟨⟨u, e, dn⟩, _⟩ =>
    cases e
    cases dn
    refine ⟨(n : Int), rfl, by omega, by omega, fun D hD => ?_⟩
    exact lc_turnsR (n := ((n : Int).toNat)) i1 (sd.mono x1) hD (sz_small (by omega)) (fun i D acc _ nD => ht i D acc nD) (fun i D acc _ hf nD => he i D acc hf nD) fun H' es x' i' dn pr => q _ H' n es hz (x1.trans x') i' dn pr
theorem bd_lcRN (fm : Fam P w K mg base N k sc F) {x y : Str} {px py p pc pos spos : Pos} {elt a : Expr} {ifs : List Expr} {scope : Scope} {f : Nat → Bool} {R : Nat → PyData → Prop} {rest : List Stmt} {Po : Post} (l j : Nat) (hY : N[l]? = some y) (hN : N[j]? = some x) (o : lcB N sc scope x j = true) (hi : EvA F W K [a] env fun rs => ∃ n : Nat, rs = [.dat (.int (n : Int))] ∧ n ≤ 1000) (hm : mg "range" = none)
    (ht : ∀ (i : Nat) D acc, ¬ W.M D → Fam P w K mg base N k (relS scope sc) (FB F scope) → EvIf (FB F scope) (W.plus D (.lst acc)) K ifs ((env.set j .any).set j (.dat (.int (i : Int)))) (f i))
    (he : ∀ (i : Nat) D acc, f i = true → ¬ W.M D → Fam P w K mg base N k (relS scope sc) (FB F scope) → Ev (FB F scope) (W.plus D (.lst acc)) K elt ((env.set j .any).set j (.dat (.int (i : Int)))) fun s => ∃ e, s = .dat e ∧ R i e)
    (hr : ∀ (n : Nat) es, n ≤ 1000 → Paired (fun i e => R i e) ((List.range n).filter f) es → Bd F W K rest (env.set l (.dat (.list es))) Po) (hg : glB sc "range" = true := by decide +kernel) (st : ∀ i, starEach [a] (F i).env = [(false, eval a (F i).env)] := by intro _; rfl)
    (hl : lclB sc y = true := by decide +kernel) (sl : (py.line == pos.line) = true := by rfl) (sa : (scope.names.any fun (n, k) => n == y && (k == .local || k == .cell)) = false := by decide +kernel)
    (hf : ∀ i x, foldedSetIterable (.Call (.Name "range" p) [a] [] pc) (F i).env x = pure x := by intro _ _; rfl) : Bd F W K (.Assign [.Name y py] (.ListComp elt [⟨.Name x px, .Call (.Name "range" p) [a] [] pc, ifs, 0⟩] scope pos) spos :: rest) env Po := by
  intro σ H D ii sd g
  refine ⟨tSeq (tAsg (tLc (iRng1 (WA F [a])) (gName j) (WTs (FB F scope) ifs) (WE (FB F scope) elt) [j]) (gName l)) (WS F rest), fun z => ?_, lc_readRN hi (fun i D acc b => ht i D acc b (fm.blk scope (lc_kind o))) (fun i D acc b c => he i D acc b c (fm.blk scope (lc_kind o))) σ H ii sd (fun v H1 => gName l v σ H1 (WS F rest D)) fun v H' n es hz x' i' dn pr => hr n es hz pr _ _ _ i' (Sd.set dn.dv l (sd.mono x')) (g.mono x')⟩
  exact pss_cons (ps_setLc (own := [(x, j)]) (fm.ca z) (by rw [fm.nn z]; exact fm.nd) (by rw [fm.nn z]; exact hY) (lcl_of (fm.es z) hl) (sw_true (by rw [fm.es z]; exact fm.kd) (lcl_of (fm.es z) hl) sl sa) (pi_range1 (gl_of (fm.es z) hg) (by rw [fm.mg z]; exact hm) (wa_pa z) (st z)) (lc_ok fm o z) (fun s H C cl fp => lc_gName fm o hN z s H C cl fp) (fun s H C cl fp => wts_pts (F := FB F scope) (z, s, H, C, cl, fp)) (fun s H C cl fp => we_pe (F := FB F scope) (z, s, H, C, cl, fp)) (hf z)) (ws_ps z)
theorem e_listL (fm : Fam P w K mg base N k sc F) {e : Expr} {p pos : Pos} {ds : List PyData} (ha : A1 F W K [e] env [.list ds]) (hm : mg "list" = none) (hg : glB sc "list" = true := by decide +kernel)
    (st : ∀ i, starEach (e :: []) (F i).env = (false, eval e (F i).env) :: starEach [] (F i).env := by intro _; rfl) : E1 F W K (.Call (.Name "list" p) [e] [] pos) env (.dat (.list ds)) :=
  ev_callTy fm ha hm (c_listL fm) (hg := hg) (st := st)
end
theorem cut_init (es : List PyData) : cutD es none (some (-1)) = es.take (es.length - 1) := by
  unfold cutD
  have e1 : HT.sIx es.length 0 none = 0 := rfl
  have e2 : HT.sIx es.length es.length (some (-1)) = es.length - 1 := by
    show (if (-1 : Int) < 0 then ((-1 : Int) + (es.length : Int)).toNat else min (-1 : Int).toNat es.length) = _
    rw [if_pos (by decide)]
    omega
  rw [e1, e2, List.drop_zero, Nat.sub_zero]
theorem cut_tail (es : List PyData) : cutD es (some 1) none = es.drop 1 := by
  unfold cutD
  have e1 : HT.sIx es.length 0 (some 1) = min 1 es.length := by
    show (if (1 : Int) < 0 then ((1 : Int) + (es.length : Int)).toNat else min (1 : Int).toNat es.length) = _
    rw [if_neg (by decide)]
    rfl
  have e2 : HT.sIx es.length es.length none = es.length := rfl
  rw [e1, e2]
  cases es with
  | nil => rfl
  | cons x xs =>
    have : min 1 (x :: xs).length = 1 := by rw [List.length_cons]; omega
    rw [this]
    exact List.take_of_length_le (by simp)
/-- neighbours of a list that is in order -/
theorem pair_next {R : PyData → PyData → Prop} {es : List PyData} (h : es.Pairwise R) {i : Nat} {d d' : PyData} (h1 : (cutD es none (some (-1)))[i]? = some d) (h2 : (cutD es (some 1) none)[i]? = some d') : R d d' ∧ d ∈ es ∧ d' ∈ es := by
  rw [cut_init] at h1
  rw [cut_tail, List.getElem?_drop] at h2
  have h1' : es[i]? = some d := by
    rw [List.getElem?_take] at h1
    split at h1
    · exact h1
    · cases h1
  obtain ⟨l1, e1⟩ := List.getElem?_eq_some_iff.mp h1'
  obtain ⟨l2, e2⟩ := List.getElem?_eq_some_iff.mp h2
  refine ⟨?_, List.mem_of_getElem? h1', List.mem_of_getElem? h2⟩
  have := List.pairwise_iff_getElem.mp h i (1 + i) l1 l2 (by omega)
  rwa [e1, e2] at this
end Cr

set_option Elab.async false
set_option linter.all false
set_option maxRecDepth 100000
set_option maxHeartbeats 4000000
namespace Cr
open PySem PySem.Spec PyProof.Rows L2

/-! ## comprehensions over a tuple of data -/
section
variable {ι : Type} {F : ι → Cx} {P : Program} {w : World} {K : PySem.W.Frag} {mg : Str → Option Value} {base : Heap} {N : List Str} {k : Nat} {sc : Scope} {W : Wd} {env : List Sl}
theorem lc_turnsT {elt : Expr} {ifs : List Expr} {scope : Scope} {j : Nat} {ds : List PyData} {xs : List V} {a D : Addr} {H1 : Hp} {σ : L2.St} {f : Nat → Bool} {R : Nat → PyData → Prop} {Q : VK} (i1 : W.I H1) (sd : Sd W K H1 σ env) (la : TA' W K H1 a xs) (da : DnAll W K H1 xs ds) (hD : H1 D = none) (hz : ds.length ≤ sizeLine)
    (ht : ∀ i d D acc, ds[i]? = some d → ¬ W.M D → EvIf (FB F scope) (W.plus D (.lst acc)) K ifs ((env.set j .any).set j (.dat d)) (f i))
    (he : ∀ i d D acc, ds[i]? = some d → f i = true → ¬ W.M D → Ev (FB F scope) (W.plus D (.lst acc)) K elt ((env.set j .any).set j (.dat d)) fun s => ∃ e, s = .dat e ∧ R i e)
    (q : ∀ H' es, Wx W H1 H' → W.I H' → Dn W K H' (.ref D) (.list es) → Paired (fun i e => R i e) ((List.range ds.length).filter f) es → Q (.ref D) H') :
    ∃ Wl : Nat → Nat → Hp → Prop, (∃ m, Wl 0 m (upd H1 D (.lst []))) ∧ ∀ i m H, Wl i m H →
      ((Itt K a).stop i H ∧ Q (.ref D) H) ∨ ((Itt K a).go i H ∧ ∃ Nx : Hp → Prop, (∀ H', Nx H' → ∃ m', m' < m ∧ Wl (i + 1) m' H') ∧ ∀ x H', (Itt K a).yld i H x H' → gName j x (L2.wipe σ [j]) H' fun σ2 H2 => L2.wipe σ2 [j] = L2.wipe σ [j] ∧ WTs (FB F scope) ifs σ2 H2 fun b H3 =>
        if b = true then WE (FB F scope) elt σ2 H3 fun y H4 => ∃ acc, H4 D = some (.lst acc) ∧ acc.length < sizeLine ∧ Nx (upd H4 D (.lst (acc ++ [y]))) else Nx H3) := by
  have nD : ¬ W.M D := fun m => W.has H1 D i1 m hD
  refine lc_tup (K := K) (a := a) (xs := xs) (fun i H' => ∃ acc es, (W.plus D (.lst acc)).I H' ∧ Wx (W.plus D (.lst acc)) H1 H' ∧ DnAll (W.plus D (.lst acc)) K H' acc es ∧ Paired (fun i e => R i e) ((List.range i).filter f) es) ?_ ?_ ?_ ?_
  · exact ⟨[], [], ⟨W.mono _ _ i1 (Xt.new hD), upd_same⟩, fun p o _ h => Xt.new hD p o h, .nil, .nil⟩
  · intro i H' _ ⟨acc, es, _, x, _⟩
    have keep : ∀ p o, ¬ W.M p → H1 p = some o → H' p = some o := fun p o n h => x p o (fun m => m.elim n fun e => ne_of_none h hD e) h
    exact (TA'.mono keep la).sq
  · intro i x H' hx ⟨acc, es, ii, xx, dn, pr⟩
    obtain ⟨d, hd, dx⟩ := da.getV hx
    have to1 : ∀ b, H1 b ≠ none → (W.plus D (.lst acc)).M b → W.M b := plus_of hD
    have sd' : Sd (W.plus D (.lst acc)) K H' ((L2.wipe σ [j]).set j (some x)) ((env.set j .any).set j (.dat d)) := Sd.set ((dx.to to1).mono xx).dv j (((sd.to to1).wipe [j]).mono xx)
    refine ⟨wipe_set j, ?_⟩
    refine ht i d D acc hd nD _ H' ii sd' _ fun H3 x3 i3 => ?_
    have lt : acc.length ≤ i := by
      have l1 := dn.length
      have l2 := Paired.length pr
      have l3 := List.length_filter_le f (List.range i)
      rw [List.length_range] at l3
      omega
    have il : i < ds.length := (List.getElem?_eq_some_iff.mp hd).1
    cases hf : f i with
    | true =>
      refine he i d D acc hd hf nD _ H3 i3 (sd'.mono x3) _ fun y H4 r x4 i4 d4 h4 => ?_
      obtain ⟨e, rfl, hR⟩ := h4
      obtain ⟨u, z, dy⟩ := d4
      cases z
      have up : Wx (W.plus D (.lst acc)) H4 (upd H4 D (.lst (acc ++ [y]))) := fun p o n h => by
        rw [upd_ne fun z => n (Or.inr z)]
        exact h
      refine ⟨acc, i4.2, by omega, acc ++ [y], es ++ [e], ⟨W.loc _ _ i4.1 fun b m => upd_ne fun z => nD (z ▸ m), upd_same⟩, ?_, ?_, ?_⟩
      · intro p o n h
        exact up p o n (x4 p o n (x3 p o n (xx p o n h)))
      · refine DnAll.to (W := W.plus D (.lst acc)) (W' := W.plus D (.lst (acc ++ [y]))) (fun _ _ m => m) (DnAll.mono up ?_)
        exact ((dn.mono x3).mono x4).append (.cons dy .nil)
      · rw [List.range_succ, List.filter_append, List.filter_cons, if_pos hf]
        exact paired_app pr (.cons hR .nil)
    | false =>
      refine ⟨acc, es, i3, fun p o n h => x3 p o n (xx p o n h), dn.mono x3, ?_⟩
      rw [List.range_succ, List.filter_append, List.filter_cons, if_neg (by rw [hf]; exact Bool.false_ne_true)]
      show Paired _ (_ ++ []) es
      rw [List.append_nil]
      exact pr
  · intro H' ⟨acc, es, ii, xx, dn, pr⟩
    rw [da.length] at pr
    refine q H' es (fun p o n h => xx p o (fun m => m.elim n fun z => ?_) h) ii.1 ?_ pr
    · rw [z, hD] at h
      exact nomatch h
    · exact .lst ⟨nD, ii.2⟩ (DnAll.to (W := W.plus D (.lst acc)) (W' := W) (fun _ _ m => Or.inl m) dn)

theorem lc_readT {elt iter : Expr} {ifs : List Expr} {scope : Scope} {j : Nat} {ds : List PyData} {f : Nat → Bool} {R : Nat → PyData → Prop} (hi : E1 F W K iter env (.dat (.tuple ds))) (hz : ds.length ≤ sizeLine)
    (ht : ∀ i d D acc, ds[i]? = some d → ¬ W.M D → EvIf (FB F scope) (W.plus D (.lst acc)) K ifs ((env.set j .any).set j (.dat d)) (f i))
    (he : ∀ i d D acc, ds[i]? = some d → f i = true → ¬ W.M D → Ev (FB F scope) (W.plus D (.lst acc)) K elt ((env.set j .any).set j (.dat d)) fun s => ∃ e, s = .dat e ∧ R i e)
    (σ : L2.St) (H : Hp) (ii : W.I H) (sd : Sd W K H σ env) (Q : VK) (q : ∀ v H' es, Wx W H H' → W.I H' → Dn W K H' v (.list es) → Paired (fun i e => R i e) ((List.range ds.length).filter f) es → Q v H') :
    tLc (iTup K (WE F iter)) (gName j) (WTs (FB F scope) ifs) (WE (FB F scope) elt) [j] σ H Q := by
  refine hi σ H ii sd _ fun v H1 r x1 i1 d1 h1 => ?_
  subst h1
  obtain ⟨u, z, n1⟩ := d1
  cases z
  cases n1 with
  | tup la da =>
    refine ⟨_, rfl, ⟨_, la.sq⟩, fun D hD => ?_⟩
    exact lc_turnsT i1 (sd.mono x1) la da hD hz ht he fun H' es x' i' dn pr => q _ H' es (x1.trans x') i' dn pr
theorem ev_lcT (fm : Fam P w K mg base N k sc F) {x : Str} {px pos : Pos} {elt iter : Expr} {ifs : List Expr} {scope : Scope} {ds : List PyData} {f : Nat → Bool} {R : Nat → PyData → Prop} (j : Nat) (hN : N[j]? = some x) (o : lcB N sc scope x j = true) (hi : E1 F W K iter env (.dat (.tuple ds)))
    (ht : ∀ i d D acc, ds[i]? = some d → ¬ W.M D → Fam P w K mg base N k (relS scope sc) (FB F scope) → EvIf (FB F scope) (W.plus D (.lst acc)) K ifs ((env.set j .any).set j (.dat d)) (f i))
    (he : ∀ i d D acc, ds[i]? = some d → f i = true → ¬ W.M D → Fam P w K mg base N k (relS scope sc) (FB F scope) → Ev (FB F scope) (W.plus D (.lst acc)) K elt ((env.set j .any).set j (.dat d)) fun s => ∃ e, s = .dat e ∧ R i e)
    (hz : ds.length ≤ sizeLine) (hf : ∀ i x, foldedSetIterable iter (F i).env x = pure x := by intro _ _; rfl) :
    Ev F W K (.ListComp elt [⟨.Name x px, iter, ifs, 0⟩] scope pos) env fun s => ∃ es, s = .dat (.list es) ∧ Paired (fun i e => R i e) ((List.range ds.length).filter f) es := by
  intro σ H ii sd Q q
  refine ⟨_, fun z => ?_, lc_readT hi hz (fun i d D acc a b => ht i d D acc a b (fm.blk scope (lc_kind o))) (fun i d D acc a b c => he i d D acc a b c (fm.blk scope (lc_kind o))) σ H ii sd Q fun v H' es x' i' dn pr => q v H' _ x' i' dn.dv ⟨es, rfl, pr⟩⟩
  have h1 := pi_tup (tg := .Name x px) (we_pe (F := F) (e := iter) z)
  rw [fm.kk z] at h1
  exact pe_lc (own := [(x, j)]) (fm.ca z) (by rw [fm.nn z]; exact fm.nd) h1 (lc_ok fm o z) (fun s H C cl fp => lc_gName fm o hN z s H C cl fp) (fun s H C cl fp => wts_pts (F := FB F scope) (z, s, H, C, cl, fp)) (fun s H C cl fp => we_pe (F := FB F scope) (z, s, H, C, cl, fp)) (hf z)

/-! ## tuple(l) -/
theorem c_tupL (fm : Fam P w K mg base N k sc F) {ds : List PyData} : C1 F W K (.type "tuple") [.list ds] (.tuple ds) := by
  intro H vs ii dn Q q
  cases dn with
  | cons d1 t =>
    cases t
    cases d1 with
    | lst a r =>
      refine ⟨_, fun i => by have := call_tuple_of (X := F i); rwa [fm.kk i] at this, ?_⟩
      refine ⟨_, _, rfl, Or.inl ⟨a.sq, fun l hl => ?_⟩⟩
      obtain ⟨x2, i2, d2⟩ := new_tup ii hl r
      exact q _ _ _ x2 i2 d2.dv rfl
theorem e_tupL (fm : Fam P w K mg base N k sc F) {e : Expr} {p pos : Pos} {ds : List PyData} (ha : A1 F W K [e] env [.list ds]) (hm : mg "tuple" = none) (hg : glB sc "tuple" = true := by decide +kernel)
    (st : ∀ i, starEach (e :: []) (F i).env = (false, eval e (F i).env) :: starEach [] (F i).env := by intro _; rfl) : E1 F W K (.Call (.Name "tuple" p) [e] [] pos) env (.dat (.tuple ds)) :=
  ev_callTy fm ha hm (c_tupL fm) (hg := hg) (st := st)
theorem e_tupN (fm : Fam P w K mg base N k sc F) {e : Expr} {p pos : Pos} {R : List PyData → Prop} (ha : Ev F W K e env fun s => ∃ ds, s = .dat (.list ds) ∧ R ds) (hm : mg "tuple" = none) (hg : glB sc "tuple" = true := by decide +kernel)
    (st : ∀ i, starEach (e :: []) (F i).env = (false, eval e (F i).env) :: starEach [] (F i).env := by intro _; rfl) : Ev F W K (.Call (.Name "tuple" p) [e] [] pos) env fun s => ∃ ds, s = .dat (.tuple ds) ∧ R ds := by
  intro σ H i sd Q q
  refine ⟨tCB (WC F (.type "tuple")) (WA F [e]), fun z => pe_callTy (wc_call z) (gl_of (fm.es z) hg) (by rw [fm.mg z]; exact hm) (by decide +kernel) (wa_pa z) (by decide) (by decide) (st z) (by rfl), ?_⟩
  refine (ea_cons ha ea_nil (st := st)) σ H i sd _ fun vs H1 rs x1 i1 d1 h1 => ?_
  obtain ⟨_, _, rfl, ⟨ds, rfl, hR⟩, rfl⟩ := h1
  exact c_tupL fm H1 vs i1 (dn_of_sd (ds := [.list ds]) d1) Q fun v H' r x' i' d h => q v H' r (x1.trans x') i' d ⟨ds, h, hR⟩

/-! ## longer chains of and, or -/
theorem ev_andS {a b : Expr} {l : List Expr} {pos : Pos} {c d : Bool} (ha : E1 F W K a env (.dat (.bool c))) (t : c = true → E1 F W K (.BoolOp .And (b :: l) pos) env (.dat (.bool d))) : E1 F W K (.BoolOp .And (a :: b :: l) pos) env (.dat (.bool (c && d))) :=
  ev_and ha (fun h => (t h).imp fun r z => by rw [z, h]; rfl) fun h => by rw [h]; rfl
theorem et_and3 {a b x : Expr} {pos : Pos} {c d e : Bool} (ha : T1 F W K a env c) (hb : c = true → T1 F W K b env d) (hx : c = true → d = true → T1 F W K x env e) : T1 F W K (.BoolOp .And [a, b, x] pos) env (c && (d && e)) :=
  et_w (ew_and ha (fun z => ew_and (hb z.symm) (fun y => ew_and1 ((hx z.symm y.symm).imp fun r q => by rw [← z, ← y, q]; rfl)) fun y => by rw [← z, ← y]; rfl) fun z => by rw [← z]; rfl)
theorem ev_and1 {a : Expr} {pos : Pos} {c : Bool} (ha : E1 F W K a env (.dat (.bool c))) : E1 F W K (.BoolOp .And [a] pos) env (.dat (.bool c)) := ev_one ha
end
end Cr

set_option Elab.async false
set_option linter.all false
set_option maxRecDepth 100000
set_option maxHeartbeats 4000000
namespace Cr
open PySem PySem.Spec PyProof.Rows L2
section
variable {ι : Type} {F : ι → Cx} {P : Program} {w : World} {K : PySem.W.Frag} {mg : Str → Option Value} {base : Heap} {N : List Str} {k : Nat} {sc : Scope} {W : Wd} {env : List Sl}
theorem kv_not {H : Hp} {x : Str} : ∀ {ks : List Str} {ds : List PyData} {vs : List V}, DnAll W K H vs ds → (ks.zip ds).lookup x = none → valV (txtKv ks vs) (.inr x) = none
  | [], _, vs, _, _ => by
    unfold txtKv valV
    simp
  | y :: ks, [], _, h, _ => by
    cases h
    unfold txtKv valV
    simp
  | y :: ks, dy :: ds, _, h, e => by
    cases h with
    | @cons v vs _ _ a t =>
      rw [List.zip_cons_cons, List.lookup_cons] at e
      by_cases c : y = x
      · subst c
        simp at e
      · rw [show (x == y) = false from beq_eq_false_iff_ne.mpr (Ne.symm c)] at e
        have h1 := kv_not t e
        unfold txtKv valV at h1 ⊢
        rw [List.zip_cons_cons, List.map_cons, List.find?_cons_of_neg]
        · exact h1
        · intro z
          have z := of_decide_eq_true z
          injection z with z
          exact c z
/-- .get: {'a': .., 'b': ..}[key] -/
theorem ev_dispGetM (fm : Fam P w K mg base N k sc F) {keys : List (Option Expr)} {es : List Expr} {ke : Expr} {dpos apos pos : Pos} {ds : List PyData} {x : Str} {d : PyData} (ks : List Str) (hk : keys = (ks.zip (posOf keys)).map fun p => some (.Constant (.str p.1) 0 p.2)) (l1 : ks.length = es.length) (l2 : (posOf keys).length = ks.length) (nd : ks.Nodup) (n0 : 0 < ks.length) (n1 : ks.length ≤ 15)
    (hv : ∀ D, ¬ W.M D → EvP F (W.plus D (.dK [])) K es env ds) (hx : E1 F W K ke env (.dat (.str x))) (hd : ((ks.zip ds).lookup x).getD .none = d) (hm : ∀ i, M1 (F i) (.Dict keys es dpos) "get" apos ke pos := by exact fun _ => ⟨rfl, rfl, rfl, rfl⟩) : E1 F W K (.Call (.Attribute (.Dict keys es dpos) "get" apos) [ke] [] pos) env (.dat d) := by
  intro σ H i sd Q q
  have len : keys.length = ks.length := by unfold posOf at l2; rwa [List.length_map] at l2
  refine ⟨tDGet1 (tDisp (trsOf F ks es)) (WE F ke), fun z => pe_dget1 (by have := (fm.ro z).units; omega) (pe_disp (Eq.mpr (congrArg (fun q => PPs (F z) dpos q es (trsOf F ks es)) hk) (pps_of z l1 l2)) ?_ (by rw [len, l1]) ?_ (by rw [len]; exact n1)) (we_pe z) (hm z), ?_⟩
  · refine List.all_eq_true.mpr fun q hq => ?_
    rw [hk] at hq
    obtain ⟨r, _, e⟩ := List.mem_map.mp hq
    rw [← e] <;> rfl
  · intro c
    rw [c] at len
    simp at len
    omega
  · intro p hp
    obtain ⟨np, xp, ip⟩ := W.new (o := .dK []) i hp
    have sd2 : Sd (W.plus p (.dK [])) K (upd H p (.dK [])) σ env := (sd.to (plus_of hp)).mono fun b o _ h => Xt.new hp b o h
    refine hv p np ks l1 σ _ ⟨ip, upd_same⟩ sd2 _ fun vs H2 x2 i2 dn => ?_
    have keep : ∀ b o, ¬ W.M b → H b = some o → upd H2 p (.dK (txtKv ks vs)) b = some o := fun b o n h => by
      have nb : b ≠ p := ne_of_none h hp
      rw [upd_ne nb]
      exact x2 b o (fun m => m.elim n nb) (Xt.new hp b o h)
    refine ⟨i2.2, txtKv ks vs, ?_, ?_, ?_⟩
    · unfold txtKv
      rw [List.map_map] <;> rfl
    · unfold txtKv
      rw [List.length_map, List.length_zip]
      omega
    · rw [merge_app _ _ (txt_nodup nd)]
      refine ⟨p, rfl, Or.inl ⟨txtKv ks vs, Or.inl upd_same⟩, ?_⟩
      show WE F ke σ (upd H2 p (.dK (txtKv ks vs))) _
      refine hx σ _ (W.loc _ _ i2.1 fun b m => upd_ne (show b ≠ p from fun z => np (by rw [← z]; exact m))) (sd.mono keep) _ fun y H4 r x4 i4 d4 h4 => ?_
      subst h4
      obtain ⟨u, z, n4⟩ := d4
      cases z
      cases n4
      have up : Wx (W.plus p (.dK [])) H2 (upd H2 p (.dK (txtKv ks vs))) := fun b o n h => by
        rw [upd_ne fun z => n (Or.inr z)]
        exact h
      have dn4 : DnAll W K H4 vs ds := DnAll.mono x4 (DnAll.to (W := W.plus p (.dK [])) (W' := W) (fun _ _ m => Or.inl m) (dn.mono up))
      have e4 : H4 p = some (.dK (txtKv ks vs)) := x4 p _ np upd_same
      have fin : ∃ v, (valV (txtKv ks vs) (.inr x)).getD .non = v ∧ Dn W K H4 v d := by
        cases hl : (ks.zip ds).lookup x with
        | some d' =>
          rw [hl] at hd
          subst hd
          obtain ⟨v, hv1, hv2⟩ := kv_get dn4 hl
          exact ⟨v, by rw [hv1]; rfl, hv2⟩
        | none =>
          rw [hl] at hd
          subst hd
          exact ⟨.non, by rw [kv_not dn4 hl]; rfl, .non⟩
      obtain ⟨v, hv1, hv2⟩ := fin
      refine ⟨_, DGet.k (k := .inr x) e4, ?_⟩
      rw [hv1]
      exact q v H4 _ (fun b o n h => x4 b o n (keep b o n h)) i4 hv2.dv rfl
theorem bd_env {b : List Stmt} {env env' : List Sl} {Po : Post} (e : env = env') (h : Bd F W K b env' Po) : Bd F W K b env Po := e ▸ h
end
end Cr

set_option Elab.async false
set_option linter.all false
set_option maxRecDepth 100000
set_option maxHeartbeats 4000000
namespace Cr
open PySem PySem.Spec PyProof.Rows L2
section
variable {ι : Type} {F : ι → Cx} {P : Program} {w : World} {K : PySem.W.Frag} {mg : Str → Option Value} {base : Heap} {N : List Str} {k : Nat} {sc : Scope} {W : Wd} {env : List Sl}
/-- while -/
theorem bd_while {c : Expr} {pos : Pos} {body rest : List Stmt} {Po : Post} (Iv : Nat → List Sl → Prop) (m0 : Nat) (h0 : Iv m0 env)
    (hs : ∀ m env1, Iv m env1 → ∃ t, T1 F W K c env1 t ∧ (t = true → Bd F W K body env1 { Po with nx := fun e => ∃ m', m' < m ∧ Iv m' e, ct := fun e => ∃ m', m' < m ∧ Iv m' e, bk := fun e => Bd F W K rest e Po }) ∧ (t = false → Bd F W K rest env1 Po))
    (hp : ∀ i, PassesOwn (model (F i).prog (F i).w) (F i).A (F i).env (F i).xe := by intro _; exact PassesOwn.never) : Bd F W K (.While c body [] pos :: rest) env Po := by
  intro σ H D ii sd g
  refine ⟨tSeq (tWhile (WT F c) (WS F body)) (WS F rest), fun z => pss_cons (ps_while (hp z) (wt_pt z) (ws_ps z)) (ws_ps z), ?_⟩
  refine ⟨fun m σ' H' => ∃ e, Wx W H H' ∧ W.I H' ∧ Sd W K H' σ' e ∧ Iv m e, ⟨m0, env, Wx.refl W H, ii, sd, h0⟩, ?_⟩
  rintro m σ1 H1 ⟨e, x1, i1, s1, iv⟩
  obtain ⟨t, ht, h1, h2⟩ := hs m e iv
  refine ht σ1 H1 i1 s1 _ fun b H2 x2 i2 eb => ?_
  subst eb
  cases b with
  | true =>
    refine ⟨fun σ' H' => ∃ m', m' < m ∧ ∃ e, Wx W H H' ∧ W.I H' ∧ Sd W K H' σ' e ∧ Iv m' e, fun σ' H' h => h, ?_⟩
    exact h1 rfl σ1 H2 _ i2 (s1.mono x2) ⟨fun σ3 H3 e3 y j s3 ⟨m', l, h3⟩ => ⟨m', l, e3, (x1.trans x2).trans y, j, s3, h3⟩, fun v H3 r y => g.rt v H3 r ((x1.trans x2).trans y), fun σ3 H3 e3 y j s3 h3 => h3 σ3 H3 D j s3 (g.mono ((x1.trans x2).trans y)), fun σ3 H3 e3 y j s3 ⟨m', l, h3⟩ => ⟨m', l, e3, (x1.trans x2).trans y, j, s3, h3⟩⟩
  | false => exact h2 rfl σ1 H2 D i2 (s1.mono x2) (g.mono (x1.trans x2))
end
end Cr

set_option Elab.async false
set_option linter.all false
set_option maxRecDepth 100000
set_option maxHeartbeats 4000000
/-! # an own error whose __init__ says super().__init__(f".. {f}") and stores f -/
namespace PySem
namespace SupX
open PySem.W PySem.Calls PyProof.Rows PySem.HandSPX
def iA (p1 p2 : Pos) : Arguments := { posonlyargs := [], args := [{ arg := "self", annotation := none, pos := p1 }, { arg := "place", annotation := none, pos := p2 }], vararg := none, kwonlyargs := [], kw_defaults := [], kwarg := none, defaults := [] }
def iE (q1 q2 q3 q4 q5 q6 q7 q8 : Pos) (m : Str) (j : Nat) : Expr := .Call (.Attribute (.Call (.Name "super" q1) [] [] q2) "__init__" q3) [.JoinedStr [.Constant (.str m) j q4, .FormattedValue (.Name "place" q5) (-1) none q6] q7] [] q8
def iB (q1 q2 q3 q4 q5 q6 q7 q8 q9 q10 q11 q12 q13 : Pos) (m : Str) (j : Nat) : List Stmt := [.Expr (iE q1 q2 q3 q4 q5 q6 q7 q8 m j) q9, .Assign [.Attribute (.Name "self" q10) "place" q11] (.Name "place" q12) q13]
def iS : Scope := { kind := .function, names := [(PySem.Str.ofString "self", .local), (PySem.Str.ofString "place", .local), (PySem.Str.ofString "__class__", .free), (PySem.Str.ofString "super", .globalImplicit)], isGenerator := false, isCoroutine := false, more := [] }
structure SupTxt (P : Program) (K : Frag) (mg : Str → Option Value) (x m : Str) (C fI : Addr) : Prop where
  gC : mg x = some (.ref C)
  cls : ∃ nm q N bs bm sn sub ab col dd k0 k1 k2 k3 k5, K.lookup C = some (excClassObj nm q C N bs bm true sn sub ab col dd k0 k1 k2 k3 k5 "ValueError.__new__") ∧ refsVE bm = true
  sa : findIn K (.ref C) "__setattr__" = some (some (.builtin "object.__setattr__"))
  ga : findIn K (.ref C) "__getattribute__" = some (some (.builtin "BaseException.__getattribute__"))
  gg : findIn K (.ref C) "__getattr__" = some none
  noN : findIn K (.ref C) "place" = some none
  iC : findIn K (.ref C) "__init__" = some (some (.ref fI))
  tC : typeIn K (.ref fI) = some (.type "function")
  kC : keepIn K (.ref C) = true
  exC : subIn K (.ref C) (.type "BaseException") = some true
  vEC : subIn K (.ref C) (.type "ValueError") = some true
  selfC : mroIn K C (.ref C) = some true
  tyC : typeIn K (.ref C) = some (.type "type")
  hdC : hasDictIn K C = true
  te : exmOne K (.ref C) (.ref C) = some true
  sin : ks_superIn K C C "__init__" = some (some (.builtin "ValueError.__init__"))
  opq : nsIn K cStatics "thirdparty.any" = some none
  sup : mg "super" = none
  top : (P.main.scope.names.lookup ("super" : Str)).isSome = false
  mz : m.length ≤ 1000
  fn : ∃ (oc : Value) (od : Option Addr) (q : Str) (doc pm : Value) (an : Option Addr) (cda : Addr) (ct : Value) (cc : Addr) (osl : Array (Option Value)) (p1 p2 q1 q2 q3 q4 q5 q6 q7 q8 q9 q10 q11 q12 q13 : Pos) (j : Nat),
    K.lookup fI = some ⟨oc, od, .func (ksFn "__init__" q (iA p1 p2) (iB q1 q2 q3 q4 q5 q6 q7 q8 q9 q10 q11 q12 q13 m j) iS .none .none doc pm an (.ref cda) ct cc), osl⟩ ∧ codeIn K (.ref cda) q = true ∧
    (∃ ccl cdd vs ccs file tf, K.lookup cda = some ⟨ccl, cdd, .fields vs, ccs⟩ ∧ vs[2]? = some (.str file tf) ∧ ((P.main.file : Str) == file) = true) ∧
    (∃ cl cld csl, K.lookup cc = some ⟨cl, cld, .cell (some (.ref C)), csl⟩) ∧ (q9.line == q8.line) = true ∧ (q3.endLine == q8.line) = true
theorem one_size (v : Value) : [v].length ≤ sizeLine := by
  rw [sizeLine_eq]
  exact (by decide : 1 ≤ 16777216)
/-- what __init__ leaves of a fresh exception at x -/
structure InitEnd (h h' : Heap) (x C dx t1 : Addr) (v : Value) : Prop where
  keep : ∀ b o, b ≠ x → h.get? b = some o → h'.get? b = some o
  obj : h'.get? x = some { cls := .ref C, dict := some dx, data := .fields #[.ref t1, .none, .none, .none, .bool false, .none] }
  dbig : h.objs.size ≤ dx
  dne : dx ≠ x
  ns : h'.Ns1 dx (fun y => if y = "place" then some v else none)
structure OwnMade (h h' : Heap) (e C d : Addr) (v : Value) : Prop where
  keep : ∀ b o, h.get? b = some o → h'.get? b = some o
  new : h.objs.size ≤ e
  obj : ∃ oe vs, h'.get? e = some oe ∧ oe.cls = .ref C ∧ oe.dict = some d ∧ oe.data = .fields vs ∧ vs[1]? = some .none
  dbig : h.objs.size ≤ d
  dne : d ≠ e
  ns : h'.Ns1 d (fun y => if y = "place" then some v else none)
section
variable {prog : Program} {w : World} {A : Around} {E : Value → Shared → Prop} {h : Heap} {g : Array GenState} {d : Drawn} {t : Nat} {os : OsState}
variable {nm q : Str} {C N : Addr} {bs bm : List Value} {hdct : Bool} {sn : List Str} {sub : List Value} {ab : Bool} {col : Option Bool} {dd : Option Addr} {k0 k1 k2 k3 k5 : Option Value}
theorem call_mw {u e t0 : Addr} {rest : List Value} {Q : Value → Shared → Prop}
    (hC : h.get? C = some (excClassObj nm q C N bs bm hdct sn sub ab col dd k0 k1 k2 k3 k5 "ValueError.__new__")) (he : h.get? e = some (excO C t0)) (hu : h.get? u = some (kxs_mw "ValueError.__init__" e)) (hrest : rest.length ≤ sizeLine)
    (hq : ∀ h' t1, (∀ b o, b ≠ e → h.get? b = some o → h'.get? b = some o) → h'.get? e = some (excO C t1) → Q .none ⟨h', g, d, t, os⟩) :
    wpAny (model prog w) A (call (.ref u) rest) Q E ⟨h, g, d, t, os⟩ := by
  refine wpAny_call (codeAny_of_tree ?_)
  show wpAny _ A.in1 (callAny (.ref u) ⟨rest, []⟩) _ _ _
  simp only [callAny]
  refine wpAny_bind (wpAny_load hu ?_)
  simp only [kxs_mw, show (Value.type "method-wrapper" == Value.type "method" || Value.type "method-wrapper" == Value.type "builtin_function_or_method" || Value.type "method-wrapper" == Value.type "method-wrapper") = true by decide, if_true]
  refine W.KFB.if_so (by decide) ?_
  refine wpAny_bind (PySem.ESX.check_bound F.excBase_ValueError hC he rfl ?_)
  refine wpAny_bind (wpAny_pure (wpAny_pure ?_))
  refine ⟨Code.quiet_builtin _ (by decide +kernel), codeAny_builtin F.excBase_ValueError.initEntry ?_⟩
  rw [Around.under_plainId F.excBase_ValueError.init.plain _]
  wp_walk
  refine hq _ h.objs.size (fun b o hb ho => ?_) ?_
  · rw [Heap.get?_update_other _ _ (Ne.symm hb)]
    exact Heap.get?_push_of_some _ ho
  · rw [Heap.get?_update_self _ (Heap.get?_push_of_some _ he) rfl]
    rfl
end
end SupX
end PySem

set_option Elab.async false
set_option linter.all false
set_option maxRecDepth 100000
set_option maxHeartbeats 4000000
namespace PySem
namespace SupX
open PySem.W PySem.Calls PyProof.Rows PySem.HandSPX
section
variable {M : Model} {A : Around} {c : Code} {E : Value → Shared → Prop} {s : Shared} {env : Env}
theorem wpAt_MethodL {o e : Expr} {name : Str} {apos pos : Pos} {Q : Value → Shared → Prop} (hl : (apos.endLine == pos.line) = true) (htrees : backTo pos (starEach [e] env) = [(false, eval e env)])
    (h : wpAt M A c (attributeBase o name env (eval o env)) (fun ov s₁ => ∀ pl : Sem Bool, wpAny M A (getMethod ov name pl) (fun fx s₂ => wpAny M A (callWith pos fx.1 fx.2 (backTo pos (starEach [e] env)) []) Q E s₂) E s₁) E s) :
    wpAt M A c (eval (.Call (.Attribute o name apos) [e] [] pos) env) Q E s := by
  rw [arm_eval_Call]
  have hform : methodCallForm (([e] : List Expr).length + ([] : List Keyword).length) (backTo pos (starEach [e] env)) (backToKw pos (keywordEach [] env)) = true := by rw [htrees]; rfl
  have hpos : methodCallPos true o env apos pos = pure pos := by unfold methodCallPos; simp [hl]
  refine wpAt_bind (ks_wpAt_mono h (fun ov s₁ h₁ => wpAt_of_wpAny (wpAny_bind (wpAny_standAt ?_))) fun _ _ x => x)
  unfold methodCall
  rw [hform]
  refine wpAny_bind (wpAny_holding ?_)
  show wpAny _ _ (getMethod ov name _) _ _ _
  exact wpAny_mono (h₁ _) (fun fx s₂ h₂ => wpAny_bind (wpAny_of_eq hpos h₂)) fun _ _ x => x
end
section
variable {prog : Program} {w : World} {A : Around} {E : Value → Shared → Prop} {R : Result → Shared → Prop} {s : Shared} {K : Frag} {mg mb : Str → Option Value} {C fI : Addr} {xn m : Str}
theorem subC {h : Heap} {M : Model} (T : SupTxt prog K mg xn m C fI) (X : K.In h) : Looks M h (isSubtype (.ref C) (.ref C)) true := looks_mroIn X T.selfC
theorem sup_init (T : SupTxt prog K mg xn m C fI) {x t0 : Addr} {i : Int} {ti : Tok} (X : K.In s.heap) (hlim : s.heap.NoLimit) (G : s.heap.Ns mainGlobals mg) (B : s.heap.Ns builtinsNs mb) (hB : ∀ x : Str, x ≠ "__name__" → mb x = bootBuiltins x) (hi : i.natAbs.log2 < 1920)
    (hx : s.heap.get? x = some (excO C t0)) (hnx : K.lookup x = none) (hroom : A.depth < recursionLimit)
    (hq : ∀ h' tk dx t1, InitEnd s.heap h' x C dx t1 (.int i ti) → R (.ok (.ret .none)) { s with heap := h', toks := tk }) :
    codeAny (model prog w) A (.call (.ref fI) ⟨[.ref x, .int i ti], []⟩) R s := by
  obtain ⟨oc, od, q, doc, pm, an, cda, ct, cc, osl, p1, p2, q1, q2, q3, q4, q5, q6, q7, q8, q9, q10, q11, q12, q13, j, ho, hcd, ⟨ccl, cdd, vs, ccs, file, tf, hcda, hvs, hfile⟩, ⟨cl, cld, csl, hcell⟩, hln, hln2⟩ := T.fn
  obtain ⟨nm, qc, N, bs, bm, sn, sub, ab, col, dd, k0, k1, k2, k3, k5, hC, hbm⟩ := T.cls
  have hcl : clsIn K C = some { name := nm, bases := bs, mro := .ref C :: bm, ns := N, qualname := qc, hasDict := true, slotNames := sn, subclasses := sub, abstract := ab, collection := col, hasDel := false } := by unfold clsIn; rw [hC] <;> rfl
  refine ks_codeAny_call_defAt (fd := ksFn "__init__" q (iA p1 p2) (iB q1 q2 q3 q4 q5 q6 q7 q8 q9 q10 q11 q12 q13 m j) iS .none .none doc pm an (.ref cda) ct cc) (binds := [("self", .ref x), ("place", .int i ti)]) hroom (X _ _ ho) rfl hlim (codeRec_of X hcd) rfl (BindsTo.of_eq (by first | rfl | with_unfolding_all rfl)) (show ∀ x ∈ iS.names, x.2 ≠ .cell by decide) (fun y hy => by
      rcases List.mem_cons.mp hy with rfl | hy
      · rfl
      · rcases List.mem_cons.mp hy with rfl | hy
        · rfl
        · exact absurd hy List.not_mem_nil) (fun h₁ hns k => ?_) rfl rfl rfl
  have X₁ : K.In h₁ := X.keeps k
  have hx₁ := k _ _ hx
  have hxL : s.heap.objs.size ≠ x := Nat.ne_of_gt (Heap.lt_size hx)
  have hns0 : ∀ {h₂ : Heap} , (∀ b o, b ≠ x → h₁.get? b = some o → h₂.get? b = some o) → h₂.Ns s.heap.objs.size (fun y => ([("self", Value.ref x), ("place", Value.int i ti)] : List (Str × Value)).reverse.lookup y) := fun {h₂} kk => by
    obtain ⟨o, es, ep, z, dd2, rr⟩ := hns
    exact ⟨o, es, ep, kk _ _ hxL z, dd2, rr⟩
  show wpAt _ _ _ (execs (.Expr (iE q1 q2 q3 q4 q5 q6 q7 q8 m j) q9 :: _) _) _ _ _
  refine ks_wpAt_execs_cons (ks_wpAt_Expr_any (wpAt_MethodL hln2 rfl ?_) (by rfl) (by rfl))
  refine ks_wpAt_super_base (f := fI) (cc := cda) (ar := { arg := "self", annotation := none, pos := p1 }) rfl rfl rfl rfl (k _ _ (X _ _ ho)) rfl rfl rfl (k _ _ (X _ _ hcda)) rfl hvs hfile T.top ?_
  refine ks_loadName_global rfl rfl (loadGlobal_builtin (G.keeps k) T.sup (B.keeps k) ((hB _ (by decide)).trans (by decide +kernel : bootBuiltins "super" = some (.type "super"))) ⟨rfl, ?_⟩)
  refine wpAny_loadName_free (v := .ref C) rfl rfl rfl ⟨_, k _ _ (X _ _ hcell), rfl⟩ ?_
  refine wpAny_loadName_local (v := .ref x) rfl rfl hns (by rfl) ?_
  refine ks_wpAny_isType_cls (k _ _ (X _ _ hC)) rfl ⟨rfl, ?_⟩
  refine ks_wpAny_call_super (k _ _ (X _ _ hC)) rfl hx₁ rfl (fun c z => by cases z) (subC T X₁) (fun h₂ e2 kS pl => ?_)
  have X₂ : K.In h₂ := X₁.keeps kS
  have hx₂ := kS _ _ hx₁
  have I₂ : InstAt h₂ x (excO C t0) C none := ⟨hx₂, rfl, rfl, trivial⟩
  refine kxs_getMethod (x := x) (C := C) (l := (((Value.ref C :: bm).dropWhile (· != .ref C)).drop 1)) kxs_ValueError e2 (looks_opaque X₂ T.opq) (l₀ := .ref C :: bm) ?hmro rfl X₂ ?halong (I₂.type.andThen (looks_subIn X₂ T.vEC)) (ks_ne X₂ I₂ hcl) rfl ?_
  case hmro => exact fun A Q E s k q => wpAny_bind ((looks_clsIn X₂ hcl) A _ E s k (wpAny_pure q))
  case halong =>
    have := T.sin
    unfold ks_superIn at this
    rw [hcl] at this
    exact this
  -- the argument
  have hcs : (h₂.push (kxs_mw "ValueError.__init__" x)).get? C = some (excClassObj nm qc C N bs bm true sn sub ab col dd k0 k1 k2 k3 k5 "ValueError.__new__") := Heap.get?_push_of_some _ (kS _ _ (k _ _ (X _ _ hC)))
  have hx3 : (h₂.push (kxs_mw "ValueError.__init__" x)).get? x = some (excO C t0) := Heap.get?_push_of_some _ hx₂
  have k3' : ∀ b o, h₁.get? b = some o → (h₂.push (kxs_mw "ValueError.__init__" x)).get? b = some o := fun b o e => Heap.get?_push_of_some _ (kS b o e)
  have hns3 := hns0 (h₂ := h₂.push (kxs_mw "ValueError.__init__" x)) fun b o _ e => k3' b o e
  refine kxs_callWith (i := "ValueError.__init__") (x := x) rfl (evalArgs_plain (spliced_cons ?_))
  refine wpAny_JoinedStr (pos := q7) ?_
  refine wpAny_Constant_str (k := j) (pos := q4) ?_
  refine ⟨m, _, rfl, ?z1, ?_⟩
  case z1 => show (Str.empty ++ m).length ≤ sizeLine; rw [strLen_append, sizeLine_eq]; have := T.mz; show 0 + _ ≤ _; omega
  refine wpAny_FormattedValue_plain (pos := q6) ?_
  refine wpAny_Name (pos := q5) ?_ (by decide)
  refine wpAny_loadName_local (v := .int i ti) rfl rfl hns3 (by rfl) ?_
  have ez : (Str.empty ++ m ++ (toString i : Str)).length ≤ sizeLine := by
    have a1 := int_text_length_le (k := 1920) (by decide) hi
    have a2 := T.mz
    rw [strLen_append, strLen_append, sizeLine_eq]
    have a3 : ((toString i : Str)).length = (toString i).length := ofString_length _
    show 0 + _ + _ ≤ _
    omega
  refine wpAny_formatField_int hi ⟨toString i, _, rfl, ?z2, ?_⟩
  case z2 => exact ez
  refine ⟨?z3, ?_⟩
  case z3 => exact ez
  refine spliced_nil ⟨Heap.get?_push_at rfl rfl, ?_⟩
  refine call_mw hcs hx3 (Heap.get?_push_at rfl rfl) (one_size _) (fun h4 t1 k4 hx4 => ?_)
  -- self.place = place
  have hns4 := hns0 (h₂ := h4) fun b o hb e => k4 b o hb (k3' b o e)
  have X4 : K.In h4 := fun b o e => k4 b o (fun z => by rw [z, hnx] at e; cases e) (k3' b o (X₁ b o e))
  show wpAt _ _ _ (execs [_] _) _ _ _
  refine ks_wpAt_execs_cons (wpAt_of_wpAny ?_)
  refine plainObj_wpAny_Assign_Attribute ?_
  refine wpAny_Name ?_ (by decide)
  refine wpAny_loadName_local (v := .int i ti) rfl rfl hns4 (by rfl) ?_
  refine wpAny_Name ?_ (by decide)
  refine wpAny_loadName_local (v := .ref x) rfl rfl hns4 (by rfl) ?_
  refine set_plain X4 (ox := excO C t1) (od := none) ⟨hx4, rfl, rfl, trivial⟩ T.sa ?_
  refine exc_osa X4 hx4 hcl (show refsVE (.ref C :: bm) = true from hbm) rfl T.noN (fun h5 tk5 dx k5 dn dne hx5 hn5 => ?_)
  show wpAt _ _ _ (execs [] _) _ _ _
  refine wpAt_of_wpAny (wpAny_execs_nil ?_)
  have kk : ∀ b o, b ≠ x → s.heap.get? b = some o → h5.get? b = some o := fun b o hb e => k5 b o hb (k4 b o hb (k3' b o (k b o e)))
  have szs : s.heap.objs.size ≤ dx := by
    have b1 := Heap.lt_size (k4 _ _ hxL (k3' _ _ (hns.choose_spec.choose_spec.choose_spec.1)))
    exact Nat.le_of_lt (Nat.lt_of_lt_of_le b1 dn)
  exact hq h5 _ dx t1 ⟨kk, hx5, szs, dne, hn5⟩
/-- what a call of the class leaves -/
theorem sup_made (T : SupTxt prog K mg xn m C fI) {i : Int} {ti : Tok} (X : K.In s.heap) (hlim : s.heap.NoLimit) (G : s.heap.Ns mainGlobals mg) (B : s.heap.Ns builtinsNs mb) (hB : ∀ x : Str, x ≠ "__name__" → mb x = bootBuiltins x) (hi : i.natAbs.log2 < 1920) (hroom : A.depth + 1 < recursionLimit)
    (hq : ∀ h' tk e d, OwnMade s.heap h' e C d (.int i ti) → R (.ok (.ret (.ref e))) { s with heap := h', toks := tk }) :
    codeAny (model prog w) A (.call (.ref C) ⟨[.int i ti], []⟩) R s := by
  obtain ⟨nm, q, N, bs, bm, sn, sub, ab, col, dd, k0, k1, k2, k3, k5, hC, hbm⟩ := T.cls
  obtain ⟨hp, g, dr, tk, os⟩ := s
  have k : ∀ b o, hp.get? b = some o → ((hp.push (kdv_tup [.int i ti])).push (excO C hp.objs.size)).get? b = some o := fun b o e => Heap.get?_push_of_some _ (Heap.get?_push_of_some _ e)
  have hget : ((hp.push (kdv_tup [.int i ti])).push (excO C hp.objs.size)).get? (hp.objs.size + 1) = some (excO C hp.objs.size) := by heap_get
  have hnx : K.lookup (hp.objs.size + 1) = none := by
    cases e : K.lookup (hp.objs.size + 1) with
    | none => rfl
    | some o =>
      have z : hp.get? (hp.objs.size + 1) = some o := X _ _ e
      exact absurd (Nat.lt_of_succ_lt (Heap.lt_size z)) (Nat.lt_irrefl _)
  refine call_own F.excBase_ValueError (fun X => refsVE_contains X bm hbm) (X _ _ hC) (looks_findIn X T.iC) (fun self => bind_fn X self T.tC) (one_size (.int i ti)) ?_
  refine sup_init (s := ⟨(hp.push (kdv_tup [.int i ti])).push (excO C hp.objs.size), g, dr, tk, os⟩) T (X.keeps k) (hlim.keeps k) (G.keeps k) (B.keeps k) hB hi hget hnx ?_ fun h' tk' dx t1 ⟨k', hx, dn, dne, hns⟩ => ?_
  · show A.depth + 1 < recursionLimit
    exact hroom
  · have old : ∀ b o, hp.get? b = some o → h'.get? b = some o := fun b o e => k' b o (Nat.ne_of_lt (Nat.lt_succ_of_lt (Heap.lt_size e))) (k b o e)
    have z : hp.objs.size + 1 + 1 ≤ dx := by
      first
        | (simpa only [Heap.size_push] using dn)
        | exact dn
        | (have q := dn; rw [Heap.size_push, Heap.size_push] at q; exact q)
    exact ⟨rfl, hq h' tk' (hp.objs.size + 1) dx ⟨old, Nat.le_succ _, ⟨_, _, hx, rfl, rfl, rfl, rfl⟩, Nat.le_trans (Nat.le_trans (Nat.le_succ _) (Nat.le_succ _)) z, dne, hns⟩⟩
end
end SupX
end PySem

set_option Elab.async false
set_option linter.all false
set_option maxRecDepth 100000
set_option maxHeartbeats 4000000
namespace Cr
open PySem PySem.Spec PyProof.Rows L2

/-! ## defs that may raise -/
structure FnX (P : Program) (w : World) (K : PySem.W.Frag) (mg : Str → Option Value) (base : Heap) (k : Nat) (f : Addr) (fd : FuncData) (ps : List Str) (sp : Sp) : Prop where
  len : ∀ vs H Q E, sp vs H Q E → vs.length = ps.length
  run : ∀ (A : Around) (fr : List Env) (s : Shared) (H : Hp) (args : Args) (us : List Value) (vs : List V) (Q : VK) (E : XK), A.guards = some [] → Room k A → Env0 P w K mg base A fr s H →
    BindsTo s fd args (ps.zip us) → Vals vs us → sp vs H Q E → codeAny (model P w) A (.call (.ref f) args) (CR (L2.CX P w) fr P w H s Q E) s
section
variable {P : Program} {w : World} {K : PySem.W.Frag} {mg : Str → Option Value} {base : Heap} {k : Nat} {f : Addr} {fd : FuncData} {ps : List Str} {sp : Sp}
/-- a def by its body -/
theorem fnX_of {name qual : Str} {params : Arguments} {body : List Stmt} {scope : Scope} {dV kV doc pm cdv ct oc : Value} {an od : Option Addr} {osl : Array (Option Value)} {N : List Str}
    (lk : K.lookup f = some ⟨oc, od, .func (PySem.W.fnOf name qual params body scope dV kV doc pm an cdv ct), osl⟩) (cdIn : PySem.W.codeIn K cdv qual = true) (S : FnScope N ps scope)
    (len : ∀ vs H Q E, sp vs H Q E → vs.length = ps.length)
    (body_ok : ∀ (A : Around) (fr : List Env) (s : Shared) (H : Hp) (vs : List V) (Q : VK) (E : XK), A.guards = some [] → Room k (A.deeper (envOfC qual scope s.heap.objs.size f cdv)) → sp vs H Q E →
      ∃ t, PSs (cxOf (L2.CX P w) P w K mg base N qual scope f cdv A fr s H E) body t ∧ t { nx := fun _ H' => Q .non H', rt := Q } (start N vs) H) :
    FnX P w K mg base (k + 1) f (PySem.W.fnOf name qual params body scope dV kV doc pm an cdv ct) ps sp := by
  constructor
  · exact len
  intro A fr s H args us vs Q E g0 room env0 binds rel hsp
  have len1 := len _ _ _ _ hsp
  have kin : K.In s.heap := env0.mod.kin.keeps fun b o z => (env0.bs b o z).1
  have nolim : s.heap.NoLimit := env0.mod.nolimit.keeps fun b o z => (env0.bs b o z).1
  have kinds : ∀ y ∈ ps.zip us, scope.names.lookup y.1 = some .local ∨ (scope.names.lookup y.1 = some .cell ∧ ((cellsFrom (s.heap.objs.size + 1) scope.names []).lookup y.1).isSome = true) := by
    rintro ⟨n, v⟩ hy
    cases S.par n (List.of_mem_zip hy).1 with
    | inl q => exact Or.inl q
    | inr q => exact Or.inr ⟨q, PySem.W.cellsFrom_some _ _ _ (Or.inl q)⟩
  apply codeAny_call_function room.depth (kin _ _ lk) rfl S.co S.gen rfl (PySem.W.codeRec_of kin cdIn) (binds _ _ _ _ ?_)
  apply wpAny_newFunctionEnv_cells S.kind kinds
  intro env henv s1 x
  cases henv
  refine ⟨nolim.keeps x.toInCall.keep, codeAny_func ?_⟩
  obtain ⟨t, ht, hq⟩ := body_ok A fr s H vs Q E g0 (room.deeper _) hsp
  have I0 : Inv (cxOf (L2.CX P w) P w K mg base N qual scope f cdv A fr s H E) [] (start N vs) H s1 := inv_start S room.hd env0 len1 rel x
  refine wpAny_mono (ht.run [] s1 (start N vs) H _ I0 hq) ?_ (fun e s' hs => hs)
  intro fl s' hs
  match fl, hs with
  | .ret u, ⟨v, _, H', J, rv, q⟩ => exact ⟨v, H', J.os, J.bare, J.base, J.hok, rv, q⟩
  | .next, ⟨_, H', J, q⟩ => exact ⟨V.non, H', J.os, J.bare, J.base, J.hok, rfl, q⟩
  | .brk, ⟨_, _, _, q⟩ => exact q.elim
  | .cont, ⟨_, _, _, q⟩ => exact q.elim
end
/-! ### own errors -/
abbrev XD := List (Str × V)
def IsX (fs : XD) (d : Option Addr) (H : Hp) : Prop := (fs = [] ∧ d = none) ∨ ∃ dd, fs ≠ [] ∧ d = some dd ∧ H dd = some (.xd fs)
/-- an own error without an __init__ of its own -/
structure ExcC (K : PySem.W.Frag) (mg : Str → Option Value) (x : Str) (C : Addr) : Prop where
  g : mg x = some (.ref C)
  k : PySem.W.keepIn K (.ref C) = true
  x : PySem.W.excIn K C [.type "ValueError", .type "Exception", .type "BaseException", .type "object"] "ValueError.__new__" = true
  b : PySem.W.subIn K (.ref C) (.type "BaseException") = some true
  t : PySem.W.typeIn K (.ref C) = some (.type "type")
theorem relO_place {v : V} {v' : Value} (r : RelV v v') (f : Str) : RelO (List.lookup f [(("place" : Str), v)]) (if f = "place" then some v' else none) := by
  by_cases hw : f = "place"
  · subst hw
    rw [if_pos rfl]
    have q : List.lookup ("place" : Str) [(("place" : Str), v)] = some v := by simp [List.lookup]
    rw [q]
    exact r
  · rw [if_neg hw]
    have qw : (f == ("place" : Str)) = false := by simpa using hw
    have q2 : List.lookup f [(("place" : Str), v)] = none := by simp [List.lookup, qw]
    rw [q2]
    trivial
section
variable {X : Cx} {C fI : Addr} {xn m : Str}
def tMkSup (C : Addr) (ta : TA) : L2.St → Hp → XK → Prop := fun σ H Q => ta σ H fun vs H1 => ∃ i : Int, vs = [.int i] ∧ i.natAbs.log2 < 1920 ∧ ∀ d, H1 d = none → Q (.ref C) (some d) (upd H1 d (.xd [(("place" : Str), .int i)]))
theorem pmk_sup {a : Expr} {ta : TA} {p pos : Pos} {k : Nat} (T : PySem.SupX.SupTxt X.prog X.K X.mg xn m C fI) (hr : Room k X.A) (ha : PA X [a] ta) (hg : Gl X xn) (hdb : (xn == ("__debug__" : Str)) = false := by decide)
    (he : starEach (a :: []) X.env = (false, eval a X.env) :: starEach [] X.env := by rfl) (hpl : (backTo pos (starEach [] X.env)).any (·.1) = false := by rfl) :
    PMk X (.Call (.Name xn p) [a] [] pos) (tMkSup C ta) := by
  intro pins s σ H Q I h
  refine wpAny_Call_Name_kw (ld_glob I hg T.gC ?_ hdb)
  refine PySem.W.callWith_K (h₀ := X.base) I.ok.mod.kin T.kC (thn (ha.run pos pins s σ H _ I h) fun us s1 hh => ?_) he hpl
  obtain ⟨vs, H1, I1, r1, i, ev, hi, q1⟩ := hh
  subst ev
  refine ⟨I1.kIn, ?_⟩
  cases r1 with
  | cons rv rn =>
    rename_i v' us'
    cases rn
    obtain ⟨ti, rfl⟩ : ∃ ti, v' = Value.int i ti := rv
    show wpAny _ _ (call (.ref C) [_]) _ _ _
    have hlim := I1.nolimit
    have hG := I1.mod.glob.keeps I1.bk
    obtain ⟨mb, hb1, hb2⟩ := I1.mod.blt
    have hB := hb1.keeps I1.bk
    obtain ⟨hp, g, dr, tk, os⟩ := s1
    refine wpAny_call (PySem.SupX.sup_made T I1.kIn hlim hG hB hb2 hi (by have := hr.dp; omega) fun h' tk' e d M => ?_)
    show MkP X pins σ Q (.ref e) ⟨h', g, dr, tk', os⟩
    obtain ⟨oe, fv, hoe, hc, hd, hdat, h1⟩ := M.obj
    have hns := M.ns
    obtain ⟨G', g1, g2⟩ := restrict h' fun b => decide (b ≠ e)
    have gk : ∀ b, b ≠ e → G'.get? b = h'.get? b := fun b hb => g1 b (decide_eq_true hb)
    have ge : G'.get? e = none := g2 e (by simp)
    have old : ∀ b o, hp.get? b = some o → G'.get? b = some o := fun b o q => (gk b (Nat.ne_of_lt (Nat.lt_of_lt_of_le (Heap.lt_size q) M.new))).trans (M.keep b o q)
    have ob : ObjOk X.prog X.w (upd H1 d (.xd [(("place" : Str), .int i)])) G' d (.xd [(("place" : Str), .int i)]) :=
      ⟨_, hns.at (fun o q => (gk d M.dne).trans q), fun f => relO_place (v := .int i) (v' := .int i ti) ⟨ti, rfl⟩ f⟩
    have J : Inv X pins σ (upd H1 d (.xd [(("place" : Str), .int i)])) ⟨G', g, dr, tk', os⟩ := I1.laid (t' := tk') old M.dbig ob
    refine ⟨e, oe, fv, ⟨G', g, dr, tk', os⟩, _, .ref C, some d, rfl, J, fun b o q => ?_, ge, hoe, ⟨hc, hd⟩, hdat, h1, ?_, rfl, I1.bare, raises_own T.exC T.tyC, q1 d (I1.hok.fresh M.dbig)⟩
    · by_cases hb : b = e
      · have q' : G'.get? b = some o := q
        rw [hb, ge] at q'; cases q'
      · exact (gk b hb).symm.trans q
    · rw [upd_ne (Ne.symm M.dne)]
      exact I1.hok.fresh M.new
end

/-! ### blocks that may raise -/
/-- wi: what is wished of an exception; EX: which may come -/
def BdE {ι : Type} (F : ι → Cx) (W : Wd) (K : PySem.W.Frag) (wi : L2.WX) (EX : Value → XD → Prop) (XE : List Sl → Prop) (ss : List Stmt) (env : List Sl) (P : Post) : Prop :=
  ∀ (σ : L2.St) (H : Hp) (D : Ends), W.I H → Sd W K H σ env → Good W K P D H → (∀ cls fs d σ' H' env', EX cls fs → XE env' → IsX fs d H' → Wx W H H' → W.I H' → Sd W K H' σ' env' → wi cls d σ' H') → WS F ss D σ H
section
variable {ι : Type} {F : ι → Cx} {P : Program} {w : World} {K : PySem.W.Frag} {mg : Str → Option Value} {base : Heap} {N : List Str} {k : Nat} {sc : Scope} {W : Wd} {env : List Sl} {wi : L2.WX} {EX : Value → XD → Prop} {XE : List Sl → Prop}
theorem bde_of {ss : List Stmt} {Po : Post} (h : Bd F W K ss env Po) : BdE F W K wi EX XE ss env Po := fun σ H D i sd g _ => h σ H D i sd g
theorem bde_nil {Po : Post} (h : Po.nx env) : BdE F W K wi EX XE [] env Po := bde_of (bd_nil h)
theorem bde_if {c : Expr} {a b rest : List Stmt} {pos : Pos} {t : Bool} {Po : Post} (hc : T1 F W K c env t) (h1 : t = true → BdE F W K wi EX XE a env { Po with nx := fun e => BdE F W K wi EX XE rest e Po }) (h2 : t = false → BdE F W K wi EX XE b env { Po with nx := fun e => BdE F W K wi EX XE rest e Po }) :
    BdE F W K wi EX XE (.If c a b pos :: rest) env Po := by
  intro σ H D i sd g hx
  refine ⟨tSeq (tIfS (WT F c) (WS F a) (WS F b)) (WS F rest), fun z => pss_cons (ps_if (wt_pt z) (ws_ps z) (ws_ps z)) (ws_ps z), ?_⟩
  refine hc σ H i sd _ fun u H1 x1 i1 ht => ?_
  have hx1 : ∀ cls fs d σ' H' env', EX cls fs → XE env' → IsX fs d H' → Wx W H1 H' → W.I H' → Sd W K H' σ' env' → wi cls d σ' H' := fun cls fs d σ' H' env' e1 e3 e2 y => hx cls fs d σ' H' env' e1 e3 e2 (x1.trans y)
  have gg : Good W K { Po with nx := fun e => BdE F W K wi EX XE rest e Po } { D with nx := WS F rest D } H1 :=
    ⟨fun σ' H' e y i' s' hb => hb σ' H' D i' s' (g.mono (x1.trans y)) (fun cls fs d σ2 H2 env2 e1 e3 e2 y2 => hx cls fs d σ2 H2 env2 e1 e3 e2 ((x1.trans y).trans y2)), (g.mono x1).rt, (g.mono x1).bk, (g.mono x1).ct⟩
  cases u with
  | true => exact h1 ht.symm σ H1 _ i1 (sd.mono x1) gg hx1
  | false => exact h2 ht.symm σ H1 _ i1 (sd.mono x1) gg hx1
/-- raise X('..') -/
theorem bde_raise0 (fm : Fam P w K mg base N k sc F) (tk : ∀ i, Takes (F i) wi) {x m : Str} {j : Nat} {p p2 pos pos2 : Pos} {C : Addr} {rest : List Stmt} {Po : Post} (T : ExcC K mg x C) (hE : EX (.ref C) []) (hXE : XE env) (hg : glB sc x = true := by decide +kernel) (hdb : (x == ("__debug__" : Str)) = false := by decide) :
    BdE F W K wi EX XE (.Raise (some (.Call (.Name x p) [.Constant (.str m) j p2] [] pos)) none pos2 :: rest) env Po := by
  intro σ H D i sd g hx
  refine ⟨tSeq (fun _ σ H => wi (.ref C) none σ H) (WS F rest), fun z => pss_cons (ps_raise (fm.ca z) (tk z) (pmk_own PySem.F.excBase_ValueError (by rw [fm.kk z]; exact T.x) (by rw [fm.mg z]; exact T.g) (by rw [fm.kk z]; exact T.k) (raises_own (by rw [fm.kk z]; exact T.b) (by rw [fm.kk z]; exact T.t)) (gl_of (fm.es z) hg) hdb)) (ws_ps z), ?_⟩
  exact hx _ [] none σ H env hE hXE (Or.inl ⟨rfl, rfl⟩) (Wx.refl W H) i sd
/-- raise X(n), X with super().__init__(f"..{place}") -/
theorem bde_raise1 (fm : Fam P w K mg base N k sc F) (tk : ∀ i, Takes (F i) wi) {x m : Str} {a : Expr} {n : Int} {p pos pos2 : Pos} {C fI : Addr} {rest : List Stmt} {Po : Post} (T : PySem.SupX.SupTxt P K mg x m C fI) (ha : A1 F W K [a] env [.int n]) (hn : n.natAbs.log2 < 1920) (hE : EX (.ref C) [(("place" : Str), .int n)]) (hXE : XE env) (hg : glB sc x = true := by decide +kernel)
    (hdb : (x == ("__debug__" : Str)) = false := by decide) (st : ∀ i, starEach (a :: []) (F i).env = (false, eval a (F i).env) :: starEach [] (F i).env := by intro _; rfl) (pl : ∀ i, (backTo pos (starEach [] (F i).env)).any (·.1) = false := by intro _; rfl) :
    BdE F W K wi EX XE (.Raise (some (.Call (.Name x p) [a] [] pos)) none pos2 :: rest) env Po := by
  intro σ H D i sd g hx
  refine ⟨tSeq (fun _ σ H => tMkSup C (WA F [a]) σ H fun cls d H' => wi cls d σ H') (WS F rest), fun z => pss_cons (ps_raise (fm.ca z) (tk z) (pmk_sup (xn := x) (m := m) (fI := fI) (k := k) (by rw [fm.pr z, fm.kk z, fm.mg z]; exact T) (fm.ro z) (wa_pa z) (gl_of (fm.es z) hg) hdb (st z) (pl z))) (ws_ps z), ?_⟩
  refine ha σ H i sd _ fun vs H1 rs x1 i1 d1 h1 => ?_
  subst h1
  match vs, d1 with
  | [v], ⟨⟨u, e, dn⟩, _⟩ =>
    cases e
    cases dn
    refine ⟨n, rfl, hn, fun d hd => ?_⟩
    obtain ⟨np, xp, ip⟩ := W.new (o := .xd [(("place" : Str), .int n)]) i1 hd
    exact hx _ _ (some d) σ _ env hE hXE (Or.inr ⟨d, (fun z => nomatch z), rfl, upd_same⟩) (x1.trans (fun b o nb h => Xt.new hd b o h)) ip (sd.mono (x1.trans (fun b o nb h => Xt.new hd b o h)))
end

/-! ### the promise of such a def, and its body -/
structure OwnX (P : Program) (w : World) (K : PySem.W.Frag) (mg : Str → Option Value) (base : Heap) (x : Str) (j : Nat) (ps : List Str) (sp : Sp) : Prop where
  ex : ∃ (f : Addr) (fd : FuncData), mg x = some (.ref f) ∧ PySem.W.keepIn K (.ref f) = true ∧ Binds K fd ps [] ∧ FnX P w K mg base j f fd ps sp
def spX (K : PySem.W.Frag) (Pre : List PyData → Prop) (Fn : List PyData → PyData → Prop) (Ex : List PyData → Value → XD → Prop) : Sp := fun vs H Q E => ∃ (W : Wd) (ds : List PyData), W.I H ∧ DnAll W K H vs ds ∧ Pre ds ∧
  (∀ r v H', Fn ds r → Xt H H' → Dn W K H' v r → Q v H') ∧ ∀ cls fs d H', Ex ds cls fs → IsX fs d H' → Xt H H' → E cls d H'
abbrev DFX (P : Program) (w : World) (K : PySem.W.Frag) (mg : Str → Option Value) (base : Heap) (N : List Str) (qual : Str) (sc : Scope) (f : Addr) (cdv : Value) (A : Around) (fr : List Env) (s : Shared) (H : Hp) (E : XK) : Unit → Cx :=
  fun _ => cxOf (L2.CX P w) P w K mg base N qual sc f cdv A fr s H E
section
variable {P : Program} {w : World} {K : PySem.W.Frag} {mg : Str → Option Value} {base : Heap} {k : Nat} {x qual : Str} {st : Stmt} {f : Addr} {fd : FuncData} {N ps : List Str}
theorem fn_raises {Pre : List PyData → Prop} {Fn : List PyData → PyData → Prop} {Ex : List PyData → Value → XD → Prop} (Fu : Fun K x qual st f fd) (S : FnScope N ps (defScope st)) (len : ∀ ds, Pre ds → ds.length = ps.length)
    (body : ∀ (cdv : Value) (A : Around) (fr : List Env) (s : Shared) (H : Hp) (E : XK) (W : Wd) (ds : List PyData), Fam P w K mg base N k (defScope st) (DFX P w K mg base N qual (defScope st) f cdv A fr s H E) → (∀ i, Takes (DFX P w K mg base N qual (defScope st) f cdv A fr s H E i) (fun cls d _ H => E cls d H)) → Pre ds →
      BdE (DFX P w K mg base N qual (defScope st) f cdv A fr s H E) W K (fun cls d _ H => E cls d H) (Ex ds) (fun _ => True) (defBody st) (startE N (ds.map .dat)) { nx := fun _ => Fn ds .none, rt := fun z => ∃ r, z = .dat r ∧ Fn ds r }) : FnX P w K mg base (k + 1) f fd ps (spX K Pre Fn Ex) := by
  obtain ⟨oc, od, kV, doc, pm, an, cdv, ct, osl, rfl, lk, hcd⟩ := Fu.ex
  refine fnX_of lk hcd S (fun vs H Q E ⟨W, ds, _, dn, hr, _⟩ => by rw [dn.length]; exact len ds hr) fun A fr s H vs Q E g hr ⟨W, ds, i, dn, hp, q, qx⟩ => ?_
  have fm : Fam P w K mg base N k (defScope st) (DFX P w K mg base N qual (defScope st) f cdv A fr s H E) := ⟨fun _ => rfl, S.kind, fun _ => rfl, fun _ => rfl, fun _ => rfl, fun _ => rfl, fun _ => rfl, fun _ => rfl, S.nd, fun _ => rfl, fun _ => g, fun _ => hr⟩
  refine ⟨WS (DFX P w K mg base N qual (defScope st) f cdv A fr s H E) (defBody st), ws_ps (F := DFX P w K mg base N qual (defScope st) f cdv A fr s H E) (), ?_⟩
  refine body cdv A fr s H E (W.lock H) ds fm (fun _ => takes_of rfl rfl rfl rfl) hp _ H _ ⟨i, fun _ _ => rfl⟩ (start_sd (sd_of_dn (DnAll.to (W := W) (W' := W.lock H) (fun _ _ m => m) dn))) ⟨fun σ' H' e xx ii s' h => ?_, fun v H' r' xx ii dv e => ?_, fun σ' H' e x i' s' h => h.elim, fun σ' H' e x i' s' h => h.elim⟩ fun cls fs d σ' H' env' he _ hi xx ii _ => ?_
  · exact q .none .non H' h (lock_xt xx ii) .non
  · obtain ⟨r, rfl, h⟩ := e
    obtain ⟨u, z, d⟩ := dv
    cases z
    exact q r v H' h (lock_xt xx ii) (Dn.to (W := W.lock H) (W' := W) (fun _ _ m => m) d)
  · exact qx cls fs d H' he hi (lock_xt xx ii)
end
end Cr

set_option Elab.async false
set_option linter.all false
set_option maxRecDepth 100000
set_option maxHeartbeats 4000000
namespace Cr
open PySem PySem.Spec PyProof.Rows L2

/-! ## try with several clauses, each with a name -/
abbrev Cls : Type := Value × Nat × (Addr → Value → Option Addr → TS)
def slotGone (D : Ends) (i : Nat) : Ends := { nx := fun σ' H' => D.nx (σ'.set i none) H', rt := D.rt, bk := fun σ' H' => D.bk (σ'.set i none) H', ct := fun σ' H' => D.ct (σ'.set i none) H' }
def wManyA (K : PySem.W.Frag) (Wout : L2.WX) (D : Ends) : List Cls → L2.WX
  | [] => Wout
  | (c, i, ts) :: r => fun cls d σ H => ∃ b, PySem.W.exmOne K cls c = some b ∧ (b = true → ∀ a, H a = none → ts a cls d (slotGone D i) (σ.set i (some (.ref a))) H) ∧ (b = false → wManyA K Wout D r cls d σ H)
inductive HdsA (X : Cx) : List ExceptHandler → List Cls → Prop
  | nil : HdsA X [] []
  | cons {x n : Str} {i : Nat} {c : Value} {ts : Addr → Value → Option Addr → TS} {b₀ : Stmt} {suite : List Stmt} {np pos' : Pos} {hds : List ExceptHandler} {l : List Cls} (hi : X.N[i]? = some n) (hln : X.env.kindOf n = some .local) (hc : Names X x c)
      (hsu : ∀ (a : Addr) (oe : Obj) (cls : Value) (d : Option Addr) (pn : List (Addr × Obj)), Zc cls d oe → (∃ vs, oe.data = .fields vs) → PSs (X.suite a ((a, oe) :: pn)) (b₀ :: suite) (ts a cls d)) (r : HdsA X hds l) :
      HdsA X (.ExceptHandler (some (.Name x np)) (some n) (b₀ :: suite) pos' :: hds) ((c, i, ts) :: l)
section
variable {X : Cx} {body : List Stmt} {h₀ : ExceptHandler} {hds : List ExceptHandler} {l : List Cls} {pos : Pos} {tb : L2.WX → TS} {Wout : L2.WX}
theorem ps_try_named (hs : X.stack = X.env :: X.outer) (hf : X.env.frame = some X.env.locals) (hN : X.N.Nodup) (tk : Takes X Wout)
    (hb : ∀ (W : L2.WX) (pn : List (Addr × Obj)) (xe : Value → Shared → Prop), Takes (X.tr pn xe) W → PassesOwn (model X.prog X.w) X.A X.env xe → PSs (X.tr pn xe) body (tb W))
    (hh : HdsA X (h₀ :: hds) l) : PS X (.Try body (h₀ :: hds) [] [] pos) (fun D σ H => tb (wManyA X.K Wout D l) D σ H) := by
  refine ⟨fun pins s σ H D I h => ?_⟩
  have ok := I.ok
  have frs_ : X.A.frames = some (X.env :: X.outer) := by rw [ok.frames, hs]
  refine wpAny_Try_except ?_
  refine wpAny_mono ((hb (wManyA X.K Wout D l) (X.pn ++ pins) (fun e s₁ => wpAny (model X.prog X.w) X.A (noteFrame e X.env) (fun _ s₂ => wpAny (model X.prog X.w) X.A (setFlight e none) (fun _ s₃ =>
    wpAny (model X.prog X.w) X.A (handleBy e X.env (h₀ :: hds)) (SP X pins D) X.xe s₃) X.xe s₂) X.xe s₁) (fun u s' xx => ?_) PassesOwn.looking).run [] s σ H D (I.toTry _) h) (fun f s1 hsp => ?_) (fun e s1 he => he)
  · -- caught
    obtain ⟨a, B, sI, pins', σ', H', cls, d, rfl, J', nb, up, sky, na, os, ag, w⟩ := xx
    have J : Inv X pins σ' H' sI := J'.ofTry ok
    show wpAny (model X.prog X.w) X.A (noteFrame (.ref a) X.env) _ _ _
    refine Sky.land (B := B) (outer := X.outer) Zc.steady frs_ hf (by rw [← hs]; exact sky) fun h3 fl3 up3 => ?_
    have J3 : Inv X pins σ' H' { s' with heap := h3 } := J.landed nb fl3.1 (up.trans up3) os ag
    obtain ⟨oe3, vs3, he3, hz3, hd3⟩ := fl3.there
    have nfr : a ∉ frs (X.env :: X.outer) := fun hm => by
      obtain ⟨_, o', e', hnf⟩ := fl3.2.2.1.mem hm
      rw [he3] at e'
      cases e'
      exact hnf _ hd3
    have nL : a ≠ X.env.locals := fun z => nfr (List.mem_filterMap.mpr ⟨X.env, List.mem_cons_self, by rw [hf, z]⟩)
    have nF : a ∉ X.fs := fun hm => by
      obtain ⟨e, he, q⟩ := List.mem_filterMap.mp hm
      exact nfr (List.mem_filterMap.mpr ⟨e, List.mem_cons_of_mem _ he, q⟩)
    have S3 := J3.suite he3 hd3 na nL nF
    have walk : ∀ {hs' : List ExceptHandler} {l' : List Cls}, HdsA X hs' l' → wManyA X.K Wout D l' cls d σ' H' →
        wpAny (model X.prog X.w) X.A (handleBy (.ref a) X.env hs') (SP X pins D) X.xe { s' with heap := h3 } := by
      intro hs' l' hk
      induction hk with
      | nil =>
        intro w
        refine wpAny_handleBy_nil ?_
        obtain ⟨_, _, _, oe, vs, T, _, _, he, _, hd, h1, _⟩ := id fl3
        unfold PySem.passOn
        refine wpAny_bind (wpAny_field he hd h1 ?_)
        rw [if_neg (show ¬ ((Value.ref T == Value.none) = true) from by simp)]
        have fin : wpAny (model X.prog X.w) X.A (setFlight (.ref a) X.env.frame) (fun _ s4 => wpAny (model X.prog X.w) X.A (throw (.ref a) : Sem Flow) (SP X pins D) X.xe s4) X.xe { s' with heap := h3 } := by
          rw [hf]
          refine HandSPX.setFlight_upZ fl3 fun h4 hh4 up4 => wpAny_throw (tk _ _ ?_)
          exact ⟨a, B, sI, pins, σ', H', cls, d, rfl, J, nb, (up.trans up3).trans up4, .inr (.inr (by rw [hs]; exact hh4)), na, os, ag, w⟩
        first
          | exact wpAny_bind (wpAny_pure (wpAny_bind fin))
          | exact wpAny_bind fin
      | @cons x n i c ts b₀ suite np pos' hds2 l2 hi hln hc hsu r ih =>
        intro w
        obtain ⟨b, hb1, hyes, hno⟩ := w
        refine wpAny_handleBy_cons (codeAny_handlers_test ?_) (by intro q; cases q)
        have LT : PySem.W.Looks (model X.prog X.w) h3 (typeOf (.ref a)) cls := fun A Q E s k q => wpAny_typeOf_ref (k _ _ he3) (by rw [hz3.1]; exact q)
        have LM := PySem.W.exm_one (M := model X.prog X.w) (J3.kIn) LT hb1
        have test : ∀ {Q : Value → Shared → Prop} {E : Value → Shared → Prop}, Q c { s' with heap := h3 } → wpAny (model X.prog X.w) (X.A.mark (some (.ref a))) (eval (.Name x np) X.env) Q E { s' with heap := h3 } := fun {Q E} q => by
          obtain ⟨hg, hdbg, hm | ⟨hm, hv, hnn⟩⟩ := hc
          · exact ld_glob (X := X.suite a ((a, oe3) :: (X.pn ++ pins))) S3 hg hm q hdbg
          · exact ld_blt (X := X.suite a ((a, oe3) :: (X.pn ++ pins))) S3 hg hm hv q hnn hdbg
        refine test (LM.here ?_)
        cases b with
        | true =>
          refine codeAny_handlers_suite_as ?_
          refine HandSPX.lands_againZ fl3 fun h4 fl4 up4 => ?_
          have J4 : Inv X pins σ' H' { s' with heap := h4 } := J.landed nb fl4.1 ((up.trans up3).trans up4) os ag
          obtain ⟨oe4, vs4, he4, hz4, hd4⟩ := fl4.there
          refine store_ok (X := X.suite a ((a, oe4) :: (X.pn ++ pins))) (v := .ref a) (J4.suite he4 hd4 na nL nF) hN hi (.inl hln) rfl (fun s5 S5 => ?_) (.inr hln)
          refine wpAny_mono ((hsu a oe4 cls d (X.pn ++ pins) hz4 ⟨_, hd4⟩).run [] s5 _ H' _ S5 (hyes rfl a na)) (fun f s6 hsp => ?_) (fun _ _ z => False.elim z)
          have out : ∀ {σ6 : L2.St} {H6 : Hp} {Q : Shared → Prop}, Inv (X.suite a ((a, oe4) :: (X.pn ++ pins))) [] σ6 H6 s6 → (∀ s7, Inv X pins (σ6.set i none) H6 s7 → Q s7) →
              wpAny (model X.prog X.w) X.A (do bindName X.env n .none; unbindBehindTheSuite X.env n pos') (fun _ s7 => Q s7) X.xe s6 := fun {σ6 H6 Q} S6 hq => gone_ok (S6.unsuite ok) hN hi hln hq
          cases f with
          | next =>
            obtain ⟨σ6, H6, S6, q6⟩ := hsp
            exact out S6 fun s7 J7 => ⟨_, _, J7, q6⟩
          | brk =>
            obtain ⟨σ6, H6, S6, q6⟩ := hsp
            exact out S6 fun s7 J7 => ⟨_, _, J7, q6⟩
          | cont =>
            obtain ⟨σ6, H6, S6, q6⟩ := hsp
            exact out S6 fun s7 J7 => ⟨_, _, J7, q6⟩
          | ret u =>
            obtain ⟨v6, σ6, H6, S6, r6, q6⟩ := hsp
            exact out S6 fun s7 J7 => ⟨_, _, _, J7, r6, q6⟩
        | false =>
          show wpAny _ X.A (handleBy (.ref a) X.env hds2) _ _ _
          exact ih (hno rfl)
    exact walk hh w
  · cases f with
    | next =>
      obtain ⟨σ', H', J', q⟩ := hsp
      exact wpAny_execs_nil ⟨σ', H', J'.ofTry ok, q⟩
    | brk =>
      obtain ⟨σ', H', J', q⟩ := hsp
      exact ⟨σ', H', J'.ofTry ok, q⟩
    | cont =>
      obtain ⟨σ', H', J', q⟩ := hsp
      exact ⟨σ', H', J'.ofTry ok, q⟩
    | ret u =>
      obtain ⟨v, σ', H', J', r, q⟩ := hsp
      exact ⟨v, σ', H', J'.ofTry ok, r, q⟩
end

/-! ### calls of defs that may raise -/
section
variable {X : Cx} {k : Nat} {f : Addr} {fd : FuncData} {ps : List Str} {sp : Sp} {x : Str} {p pos : Pos} {e : Expr} {es : List Expr} {t : TA} {wi : L2.WX}
theorem pe_callX (F : FnX X.prog X.w X.K X.mg X.base k f fd ps sp) (tk : Takes X wi) (hg : X.A.guards = some []) (hr : Room k X.A) (gl : Gl X x) (hm : X.mg x = some (.ref f)) (hk : PySem.W.keepIn X.K (.ref f) = true) (hb : Binds X.K fd ps [])
    (ha : PA X (e :: es) t) (hdb : (x == ("__debug__" : Str)) = false := by decide) (st : starEach (e :: es) X.env = (false, eval e X.env) :: starEach es X.env := by rfl) (pl : (backTo pos (starEach es X.env)).any (·.1) = false := by rfl) :
    PE X (.Call (.Name x p) (e :: es) [] pos) (fun σ H Q => t σ H fun vs H1 => sp vs H1 Q (fun cls d H2 => wi cls d σ H2)) := by
  constructor
  intro pins s σ H Q I h
  apply wpAny_Call_Name_kw (ld_glob I gl hm ?_ hdb)
  refine PySem.W.callWith_K (h₀ := X.base) I.ok.mod.kin hk (thn (ha.run pos pins s σ H _ I h) ?_) st pl
  rintro us s1 ⟨vs, H1, I1, r, q⟩
  refine ⟨I1.kIn, ?_⟩
  have ll : us.length = ps.length := r.length.symm.trans (F.len _ _ _ _ q)
  have hbb := hb s1 us I1.kIn (by rw [List.append_nil]; exact ll)
  rw [List.append_nil] at hbb
  apply wpAny_call
  refine codeAny_mono (F.run X.A X.stack s1 H1 ⟨us, []⟩ us vs Q _ hg hr I1.env0 hbb r q) ?_
  intro res s' hq
  match res, hq with
  | .ok (.ret u), hq => exact I1.after hq
  | .error u, hq => exact passAt tk σ pins H1 s1 u s' I1 hq
end
section
variable {ι : Type} {F : ι → Cx} {P : Program} {w : World} {K : PySem.W.Frag} {mg : Str → Option Value} {base : Heap} {N : List Str} {k : Nat} {sc : Scope} {W : Wd} {env : List Sl} {wi : L2.WX} {EX : Value → XD → Prop} {XE : List Sl → Prop}
/-- f(a, ..) as a statement -/
theorem bde_call (fm : Fam P w K mg base N k sc F) (tk : ∀ i, Takes (F i) wi) {x : Str} {j : Nat} {ps : List Str} {Pre : List PyData → Prop} {Fn : List PyData → PyData → Prop} {Ex : List PyData → Value → XD → Prop} {p pos pos2 : Pos} {e : Expr} {es : List Expr} {ds : List PyData} {rest : List Stmt} {Po : Post} (o : OwnX P w K mg base x j ps (spX K Pre Fn Ex)) (hj : j ≤ k) (ha : A1 F W K (e :: es) env ds) (hp : Pre ds)
    (hn : ∀ r, Fn ds r → BdE F W K wi EX XE rest env Po) (hx : ∀ cls fs, Ex ds cls fs → EX cls fs ∧ XE env)
    (hg : glB sc x = true := by decide +kernel) (hdb : (x == ("__debug__" : Str)) = false := by decide) (st : ∀ i, starEach (e :: es) (F i).env = (false, eval e (F i).env) :: starEach es (F i).env := by intro _; rfl) (pl : ∀ i, (backTo pos (starEach es (F i).env)).any (·.1) = false := by intro _; rfl)
    (hs : ∀ i, swapsWith (.Call (.Name x p) (e :: es) [] pos) none pos2.line (F i).env = pure false := by intro _; rfl) : BdE F W K wi EX XE (.Expr (.Call (.Name x p) (e :: es) [] pos) pos2 :: rest) env Po := by
  obtain ⟨f, fd, hm, hk, hb, G⟩ := o.ex
  intro σ H D i sd g hw
  refine ⟨tSeq (tDrop (fun σ H Q => WA F (e :: es) σ H fun vs H1 => spX K Pre Fn Ex vs H1 Q (fun cls d H2 => wi cls d σ H2))) (WS F rest), fun z => pss_cons (ps_expr ?_ (hs z)) (ws_ps z), ?_⟩
  · have GG : FnX (F z).prog (F z).w (F z).K (F z).mg (F z).base j f fd ps (spX K Pre Fn Ex) := by rw [fm.pr z, fm.wo z, fm.kk z, fm.mg z, fm.ba z]; exact G
    exact pe_callX GG (tk z) (fm.gu z) ((fm.ro z).mono hj) (gl_of (fm.es z) hg) (by rw [fm.mg z]; exact hm) (by rw [fm.kk z]; exact hk) (by rw [fm.kk z]; exact hb) (wa_pa z) hdb (st z) (pl z)
  · refine ha σ H i sd _ fun vs H1 rs x1 i1 d1 h1 => ?_
    subst h1
    refine ⟨W, ds, i1, dn_of_sd d1, hp, fun r v H' hr x2 _ => ?_, fun cls fs d H' he hi x2 => ?_⟩
    · have y : Wx W H H' := x1.trans (x2.wx W)
      exact hn r hr σ H' D (W.mono _ _ i1 x2) (sd.mono y) (g.mono y) fun cls fs d σ' H2 env' a b c y2 => hw cls fs d σ' H2 env' a b c (y.trans y2)
    · have y : Wx W H H' := x1.trans (x2.wx W)
      exact hw cls fs d σ H' env (hx cls fs he).1 (hx cls fs he).2 hi y (W.mono _ _ i1 x2) (sd.mono y)
/-- a try whose body may raise -/
theorem bd_try (fm : Fam P w K mg base N k sc F) {body rest : List Stmt} {h₀ : ExceptHandler} {hds : List ExceptHandler} {pos : Pos} {Po : Post} (l : List Cls) (EX : Value → XD → Prop) (XE : List Sl → Prop) (hh : ∀ z, HdsA (F z) (h₀ :: hds) l)
    (hb : ∀ (wi : L2.WX) {ι' : Type} (F' : ι' → Cx), Fam P w K mg base N k sc F' → (∀ i, Takes (F' i) wi) → BdE F' W K wi EX XE body env { Po with nx := fun e => Bd F W K rest e Po })
    (hc : ∀ cls fs d σ' H' env' D', EX cls fs → XE env' → IsX fs d H' → W.I H' → Sd W K H' σ' env' → Good W K { Po with nx := fun e => Bd F W K rest e Po } D' H' → wManyA K (fun _ _ _ _ => False) D' l cls d σ' H')
    (stk : ∀ z, (F z).stack = (F z).env :: (F z).outer := by intro _; rfl) (fr : ∀ z, (F z).env.frame = some (F z).env.locals := by intro _; rfl) : Bd F W K (.Try body (h₀ :: hds) [] [] pos :: rest) env Po := by
  intro σ H D i sd g
  refine ⟨tSeq (fun D σ H => WS (fun z : { z : ι × List (Addr × Obj) × (Value → Shared → Prop) // Takes ((F z.1).tr z.2.1 z.2.2) (wManyA K (fun _ _ _ _ => False) D l) } => (F z.1.1).tr z.1.2.1 z.1.2.2) body D σ H) (WS F rest), fun z => pss_cons ?_ (ws_ps z), ?_⟩
  · have := ps_try_named (X := F z) (body := body) (pos := pos) (tb := fun W' => WS (fun z : { z : ι × List (Addr × Obj) × (Value → Shared → Prop) // Takes ((F z.1).tr z.2.1 z.2.2) W' } => (F z.1.1).tr z.1.2.1 z.1.2.2) body) (Wout := fun _ _ _ _ => False) (stk z) (fr z) (by rw [fm.nn z]; exact fm.nd) takes_none5 (fun W' pn xe tk _ => ws_ps (F := fun z : { z : ι × List (Addr × Obj) × (Value → Shared → Prop) // Takes ((F z.1).tr z.2.1 z.2.2) W' } => (F z.1.1).tr z.1.2.1 z.1.2.2) ⟨(z, pn, xe), tk⟩) (hh z)
    rwa [fm.kk z] at this
  · have gg : Good W K { Po with nx := fun e => Bd F W K rest e Po } { D with nx := WS F rest D } H := ⟨fun σ' H' e y i' s' hb => hb σ' H' D i' s' (g.mono y), g.rt, g.bk, g.ct⟩
    refine hb (wManyA K (fun _ _ _ _ => False) { D with nx := WS F rest D } l) (fun z : { z : ι × List (Addr × Obj) × (Value → Shared → Prop) // Takes ((F z.1).tr z.2.1 z.2.2) (wManyA K (fun _ _ _ _ => False) { D with nx := WS F rest D } l) } => (F z.1.1).tr z.1.2.1 z.1.2.2)
      ⟨fun z => fm.es z.1.1, fm.kd, fun z => fm.pr z.1.1, fun z => fm.wo z.1.1, fun z => fm.kk z.1.1, fun z => fm.mg z.1.1, fun z => fm.ba z.1.1, fun z => fm.nn z.1.1, fm.nd, fun z => fm.ca z.1.1, fun z => fm.gu z.1.1, fun z => fm.ro z.1.1⟩ (fun z => z.2) σ H _ i sd gg fun cls fs d σ' H' env' e1 e2 e3 y i' s' => ?_
    exact hc cls fs d σ' H' env' _ e1 e2 e3 i' s' (gg.mono y)
end
end Cr

set_option Elab.async false
set_option linter.all false
set_option maxRecDepth 100000
set_option maxHeartbeats 4000000
namespace Cr
open PySem PySem.Spec PyProof.Rows L2 PySem.W PySem.SupX
/-! ## what a module's top has left of own errors -/
structure SupIn (P : Program) (K : Frag) (x m : Str) (C fI : Addr) : Prop where
  g : nsIn K mainGlobals x = some (some (.ref C))
  s : nsIn K mainGlobals "super" = some none
  t : ∀ mg, mg x = some (.ref C) → mg "super" = none → SupTxt P K mg x m C fI
theorem supIn_mk {P : Program} {K : Frag} {x m : Str} {C fI N : Addr} {nm q : Str} {bs bm : List Value} {sn : List Str} {sub : List Value} {ab : Bool} {col : Option Bool} {dd od an cdd cld : Option Addr} {k0 k1 k2 k3 k5 : Option Value} {oc doc pm ct ccl cl : Value} {cda cc : Addr} {qn file : Str} {osl ccs csl : Array (Option Value)} {vs : Array Value} {tf : Tok}
    {p1 p2 q1 q2 q3 q4 q5 q6 q7 q8 q9 q10 q11 q12 q13 : Pos} {j : Nat}
    (g : nsIn K mainGlobals x = some (some (.ref C))) (s : nsIn K mainGlobals "super" = some none)
    (lC : K.lookup C = some (excClassObj nm q C N bs bm true sn sub ab col dd k0 k1 k2 k3 k5 "ValueError.__new__")) (hbm : HandSPX.refsVE bm = true)
    (sa : findIn K (.ref C) "__setattr__" = some (some (.builtin "object.__setattr__"))) (ga : findIn K (.ref C) "__getattribute__" = some (some (.builtin "BaseException.__getattribute__"))) (gg : findIn K (.ref C) "__getattr__" = some none) (noN : findIn K (.ref C) "place" = some none)
    (iC : findIn K (.ref C) "__init__" = some (some (.ref fI))) (tC : typeIn K (.ref fI) = some (.type "function")) (kC : keepIn K (.ref C) = true) (exC : subIn K (.ref C) (.type "BaseException") = some true) (vEC : subIn K (.ref C) (.type "ValueError") = some true) (selfC : mroIn K C (.ref C) = some true)
    (tyC : typeIn K (.ref C) = some (.type "type")) (hdC : hasDictIn K C = true) (te : exmOne K (.ref C) (.ref C) = some true) (sin : ks_superIn K C C "__init__" = some (some (.builtin "ValueError.__init__"))) (opq : nsIn K cStatics "thirdparty.any" = some none)
    (top : (P.main.scope.names.lookup ("super" : Str)).isSome = false) (mz : m.length ≤ 1000)
    (lf : K.lookup fI = some ⟨oc, od, .func (ksFn "__init__" qn (iA p1 p2) (iB q1 q2 q3 q4 q5 q6 q7 q8 q9 q10 q11 q12 q13 m j) iS .none .none doc pm an (.ref cda) ct cc), osl⟩) (hcd : codeIn K (.ref cda) qn = true)
    (lcd : K.lookup cda = some ⟨ccl, cdd, .fields vs, ccs⟩) (hvs : vs[2]? = some (.str file tf)) (hfile : ((P.main.file : Str) == file) = true) (lcc : K.lookup cc = some ⟨cl, cld, .cell (some (.ref C)), csl⟩) (l1 : (q9.line == q8.line) = true) (l2 : (q3.endLine == q8.line) = true) : SupIn P K x m C fI :=
  ⟨g, s, fun mg h1 h2 => ⟨h1, ⟨nm, q, N, bs, bm, sn, sub, ab, col, dd, k0, k1, k2, k3, k5, lC, hbm⟩, sa, ga, gg, noN, iC, tC, kC, exC, vEC, selfC, tyC, hdC, te, sin, opq, h2, top, mz,
    ⟨oc, od, qn, doc, pm, an, cda, ct, cc, osl, p1, p2, q1, q2, q3, q4, q5, q6, q7, q8, q9, q10, q11, q12, q13, j, lf, hcd, ⟨ccl, cdd, vs, ccs, file, tf, lcd, hvs, hfile⟩, ⟨cl, cld, csl, lcc⟩, l1, l2⟩⟩⟩
theorem SupIn.txt {P : Program} {K : Frag} {x m : Str} {C fI : Addr} {mg : Str → Option Value} {h : Heap} (S : SupIn P K x m C fI) (X : K.In h) (G : h.Ns mainGlobals mg) : SupTxt P K mg x m C fI := S.t mg (mg_of X G S.g) (mg_none_of X G S.s)
structure ExcIn (K : Frag) (x : Str) (C : Addr) : Prop where
  g : nsIn K mainGlobals x = some (some (.ref C))
  k : keepIn K (.ref C) = true
  x : excIn K C [.type "ValueError", .type "Exception", .type "BaseException", .type "object"] "ValueError.__new__" = true
  b : subIn K (.ref C) (.type "BaseException") = some true
  t : typeIn K (.ref C) = some (.type "type")
theorem ExcIn.txt {K : Frag} {x : Str} {C : Addr} {mg : Str → Option Value} {h : Heap} (S : ExcIn K x C) (X : K.In h) (G : h.Ns mainGlobals mg) : ExcC K mg x C := ⟨mg_of X G S.g, S.k, S.x, S.b, S.t⟩
/-- a def that may raise, from what the top has left -/
theorem ownX_mk {P : Program} {w : World} {K : Frag} {mg : Str → Option Value} {base h : Heap} {x : Str} {st : Stmt} {j : Nat} {ps : List Str} {sp : Sp} (X : K.In h) (G : h.Ns mainGlobals mg) (d : DefF K x st) (hb : BindsB x st ps)
    (ok : ∀ f fd, Fun K x x st f fd → FnX P w K mg base j f fd ps sp) : OwnX P w K mg base x j ps sp := by
  obtain ⟨f, oc, od, an, sl, kV, dc, pm, cd, ct, a, l, c, k⟩ := d
  have Fu := fun_mk (st := st) l c k
  exact ⟨f, _, mg_of X G a, k, Fu.binds hb, ok f _ Fu⟩
end Cr

set_option Elab.async false
set_option linter.all false
set_option maxRecDepth 100000
set_option maxHeartbeats 4000000
namespace Cr
open PySem PySem.Spec PyProof.Rows L2

/-! ## list(zip(t, l)), t a tuple, l a list -/
theorem zip_nolen : typeLookup (.type "zip") "__len__" = pure none := am_miss_of_fast (by decide +kernel)
theorem zip_nohint : typeLookup (.type "zip") "__length_hint__" = pure none := am_miss_of_fast (by decide +kernel)
section
variable {prog : Program} {w : World} {A : Around} {E : Value → Shared → Prop} {s : Shared}
theorem zipTL_item {z TI TO T i1 i2 l1 l2 : Addr} {f : Bool} {oT : Obj} {k1 k2 : Nat} {xs ys : Array Value} {x y : Value} {Q : Option Value → Shared → Prop} (D : ZipApart z TI TO i1 i2 l1 l2)
    (hz : IsZipHeld s.heap z TI TO T f) (hT : s.heap.get? T = some oT) (hTI : IsTupOf2 s.heap TI (.ref i1) (.ref i2))
    (h1 : s.heap.IsTupleIter i1 l1 k1) (h2 : s.heap.IsListIter i2 l2 k2) (hl1 : s.heap.IsTuple l1 xs) (hl2 : s.heap.IsList l2 ys) (hx : xs[k1]? = some x) (hy : ys[k2]? = some y)
    (hQ : ∀ h', IsZipHeld h' z TI TO T true → h'.IsTupleIter i1 l1 (k1 + 1) → h'.IsListIter i2 l2 (k2 + 1) → IsTupOf2 h' s.heap.objs.size x y →
      (∀ c o, c ≠ z → c ≠ i1 → c ≠ i2 → s.heap.get? c = some o → h'.get? c = some o) → Q (some (.ref s.heap.objs.size)) { s with heap := h' }) :
    wpAny (model prog w) A (pyNext (.ref z)) Q E s := by
  have hTy : s.TypeIs (.ref z) "zip" := ⟨_, hz, rfl⟩
  unfold pyNext
  refine wpAny_bind (wpAny_attempt (wpAny_callSpecial?_slot (name := Str.ofString "__next__") hTy PySem.F.slot_zip_next
    (wpAny_call_entry PySem.F.slot_zip_next hTy PySem.F.entry_zip_next ?_ (PySem.F.args_zip_next_1 _))))
  show wpAny _ _ (field (.ref z) 2 >>= _) _ _ _
  refine wpAny_bind (wpAny_field hz rfl (x := .bool false) rfl ?_)
  show wpAny _ _ (field (.ref z) 3 >>= _) _ _ _
  refine wpAny_bind (wpAny_field hz rfl (x := .ref TI) rfl ?_)
  refine wpAny_bind (wpAny_seqItems hTI rfl ?_)
  show wpAny _ _ (Builtin.SmallTypes.ownedTupleIsFree (.ref z) >>= _) _ _ _
  refine wpAny_bind (wpAny_tupleHeld_zip hz hT fun h₁ hz₁ hs₁ => ?_)
  simp only [Bool.false_eq_true, if_false]
  refine wpAny_bind ?_
  rw [← Array.forIn_toList]
  simp only [List.forIn_cons, List.forIn_nil]
  refine wpAny_bind (wpAny_bind (wpAny_holding ?_))
  show wpAny _ _ (Builtin.SmallTypes.nextOf (.ref i1) >>= _) _ _ _
  refine wpAny_bind (wpAny_nextOf_tuple_item (s := { s with heap := h₁ }) (h1.extBut hs₁.extBut D.i1z) (hl1.extBut hs₁.extBut D.l1z) hx fun h₂ h1₂ hs₂ => wpAny_pure ?_)
  refine wpAny_pure ?_
  refine wpAny_bind (wpAny_bind (wpAny_holding ?_))
  show wpAny _ _ (Builtin.SmallTypes.nextOf (.ref i2) >>= _) _ _ _
  refine wpAny_bind (wpAny_nextOf_list_item (s := { s with heap := h₂ }) ((h2.extBut hs₁.extBut D.i2z).extBut hs₂.extBut D.i12.symm) ((hl2.extBut hs₁.extBut D.l2z).extBut hs₂.extBut D.l2i1) hy fun h₃ h2₃ hs₃ => wpAny_pure ?_)
  refine wpAny_pure (wpAny_pure ?_)
  show wpAny _ _ (newTuple [x, y] >>= _) _ _ _
  refine wpAny_bind (wpAny_newTuple ?_)
  have hsz : h₃.objs.size = s.heap.objs.size := by rw [hs₃.1, hs₂.1, hs₁.1]
  have hz₃ : IsZipHeld h₃ z TI TO T true := hs₃.extBut _ _ D.i2z.symm (hs₂.extBut _ _ D.i1z.symm hz₁)
  have hk : ∀ c o, c ≠ z → c ≠ i1 → c ≠ i2 → s.heap.get? c = some o → h₃.get? c = some o := fun c o c1 c2 c3 e => hs₃.extBut _ _ c3 (hs₂.extBut _ _ c2 (hs₁.extBut _ _ c1 e))
  have h1₃ : h₃.IsTupleIter i1 l1 (k1 + 1) := h1₂.extBut hs₃.extBut D.i12
  refine wpAny_pure ⟨_, rfl, wpAny_pure ?_⟩
  show Q (some (.ref h₃.objs.size)) _
  have hp : IsTupOf2 (h₃.push { cls := .type "tuple", data := .seq #[x, y] }) h₃.objs.size x y := Heap.get?_push_size _ rfl
  rw [hsz] at hp ⊢
  exact hQ _ (Heap.get?_push_of_some _ hz₃) (h1₃.at fun o e => Heap.get?_push_of_some _ e) (h2₃.at fun o e => Heap.get?_push_of_some _ e) hp fun c o c1 c2 c3 e => Heap.get?_push_of_some _ (hk c o c1 c2 c3 e)
theorem zipTL_end {z TI TO T i1 i2 l1 l2 : Addr} {f : Bool} {oT : Obj} {k1 k2 : Nat} {xs ys : Array Value} {Q : Option Value → Shared → Prop} (hh : A.handled = none) (D : ZipApart z TI TO i1 i2 l1 l2)
    (hz : IsZipHeld s.heap z TI TO T f) (hT : s.heap.get? T = some oT) (hTI : IsTupOf2 s.heap TI (.ref i1) (.ref i2))
    (h1 : s.heap.IsTupleIter i1 l1 k1) (h2 : s.heap.IsListIter i2 l2 k2) (hl1 : s.heap.IsTuple l1 xs) (hl2 : s.heap.IsList l2 ys) (hend : xs[k1]? = none ∨ ys[k2]? = none)
    (hQ : ∀ h', (∀ c o, c ≠ z → c ≠ i1 → c ≠ i2 → s.heap.get? c = some o → h'.get? c = some o) → Q none { s with heap := h' }) : wpAny (model prog w) A (pyNext (.ref z)) Q E s := by
  have hTy : s.TypeIs (.ref z) "zip" := ⟨_, hz, rfl⟩
  unfold pyNext
  have fin : ∀ (h' : Heap) (e : Addr), (∀ c o, c ≠ z → c ≠ i1 → c ≠ i2 → s.heap.get? c = some o → h'.get? c = some o) → (∃ o, h'.get? e = some o ∧ o.cls = .type "StopIteration") → wpAny (model prog w) A (isInstance (.ref e) (.type "StopIteration") >>= fun b => if b = true then pure none else throw (.ref e)) Q E { s with heap := h' } := by
    rintro h' e hk ⟨o, ho, hc⟩
    refine wpAny_bind (wpAny_isInstance (T := "StopIteration") (b := true) ⟨o, ho, hc⟩ isSubtype_stop ?_)
    exact wpAny_pure (hQ _ hk)
  refine wpAny_bind (wpAny_attempt (wpAny_callSpecial?_slot (name := Str.ofString "__next__") hTy PySem.F.slot_zip_next
    (wpAny_call_entry PySem.F.slot_zip_next hTy PySem.F.entry_zip_next ?_ (PySem.F.args_zip_next_1 _))))
  show wpAny _ _ (field (.ref z) 2 >>= _) _ _ _
  refine wpAny_bind (wpAny_field hz rfl (x := .bool false) rfl ?_)
  show wpAny _ _ (field (.ref z) 3 >>= _) _ _ _
  refine wpAny_bind (wpAny_field hz rfl (x := .ref TI) rfl ?_)
  refine wpAny_bind (wpAny_seqItems hTI rfl ?_)
  show wpAny _ _ (Builtin.SmallTypes.ownedTupleIsFree (.ref z) >>= _) _ _ _
  refine wpAny_bind (wpAny_tupleHeld_zip hz hT fun h₁ hz₁ hs₁ => ?_)
  simp only [Bool.false_eq_true, if_false]
  refine wpAny_bind ?_
  rw [← Array.forIn_toList]
  simp only [List.forIn_cons, List.forIn_nil]
  refine wpAny_bind (wpAny_bind (wpAny_holding ?_))
  show wpAny _ _ (Builtin.SmallTypes.nextOf (.ref i1) >>= _) _ _ _
  cases hx : xs[k1]? with
  | none =>
    refine wpAny_bind (wpAny_nextOf_tuple_end (s := { s with heap := h₁ }) hh (h1.extBut hs₁.extBut D.i1z) (hl1.extBut hs₁.extBut D.l1z) hx fun h₂ e hs₂ he => ?_)
    exact fin h₂ e (fun c o c1 c2 _ x => hs₂ _ _ c2 (hs₁.extBut _ _ c1 x)) he
  | some x =>
    have hy : ys[k2]? = none := by rcases hend with h | h; rw [hx] at h; cases h; exact h
    refine wpAny_bind (wpAny_nextOf_tuple_item (s := { s with heap := h₁ }) (h1.extBut hs₁.extBut D.i1z) (hl1.extBut hs₁.extBut D.l1z) hx fun h₂ h1₂ hs₂ => wpAny_pure ?_)
    refine wpAny_pure ?_
    refine wpAny_bind (wpAny_bind (wpAny_holding ?_))
    show wpAny _ _ (Builtin.SmallTypes.nextOf (.ref i2) >>= _) _ _ _
    refine wpAny_bind (wpAny_nextOf_list_end (s := { s with heap := h₂ }) hh ((h2.extBut hs₁.extBut D.i2z).extBut hs₂.extBut D.i12.symm) ((hl2.extBut hs₁.extBut D.l2z).extBut hs₂.extBut D.l2i1) hy fun h₃ e hs₃ he => ?_)
    exact fin h₃ e (fun c o c1 c2 c3 x => hs₃ _ _ c3 (hs₂.extBut _ _ c2 (hs₁.extBut _ _ c1 x))) he
end
structure ZS (h : Heap) (z TI TO i1 i2 l1 l2 S : Addr) (xs ys : Array Value) (i : Nat) : Prop where
  zz : IsZip h z TI TO .none ∨ ∃ (T : Addr) (f : Bool) (oT : Obj), IsZipHeld h z TI TO T f ∧ h.get? T = some oT ∧ T ≠ S ∧ T ≠ z ∧ T ≠ TO ∧ T ≠ i1 ∧ T ≠ i2
  ti : IsTupOf2 h TI (.ref i1) (.ref i2)
  to : ∃ a b, IsTupOf2 h TO a b
  s1 : h.IsTupleIter i1 l1 i
  s2 : h.IsListIter i2 l2 i
  t1 : h.IsTuple l1 xs
  t2 : h.IsList l2 ys
theorem ZS.keep {h h' : Heap} {z TI TO i1 i2 l1 l2 S : Addr} {xs ys : Array Value} {i : Nat} (Z : ZS h z TI TO i1 i2 l1 l2 S xs ys i) (nS : ∀ b ∈ [z, TI, TO, i1, i2, l1, l2], b ≠ S) (k : ∀ b o, b ≠ S → h.get? b = some o → h'.get? b = some o) : ZS h' z TI TO i1 i2 l1 l2 S xs ys i := by
  refine ⟨?_, k _ _ (nS TI (by simp)) Z.ti, ?_, Z.s1.at fun o e => k _ o (nS i1 (by simp)) e, Z.s2.at fun o e => k _ o (nS i2 (by simp)) e, Z.t1.at fun o e => k _ o (nS l1 (by simp)) e, Z.t2.at fun o e => k _ o (nS l2 (by simp)) e⟩
  · rcases Z.zz with h | ⟨T, f, oT, a, b, n, r⟩
    · exact Or.inl (k _ _ (nS z (by simp)) h)
    · exact Or.inr ⟨T, f, oT, k _ _ (nS z (by simp)) a, k _ _ n b, n, r⟩
  · obtain ⟨a, b, h⟩ := Z.to
    exact ⟨a, b, k _ _ (nS TO (by simp)) h⟩
section
variable {prog : Program} {w : World} {A : Around} {E : Value → Shared → Prop} {s : Shared} {z TI TO i1 i2 l1 l2 S : Addr} {xs ys : Array Value} {i : Nat}
theorem zsep (D : ZipApart z TI TO i1 i2 l1 l2) : ZipSep2 z TI TO i1 i2 [i1, l1] [i2, l2] where
  TIz := D.TIz
  TOz := D.TOz
  TITO := D.TITO
  TIi1 := D.TIi1
  mem1 := by simp
  zf1 := by simp [D.i1z.symm, D.l1z.symm]
  Tf1 := by simp [D.TOi1, D.l1TO.symm]
  TIi2 := D.TIi2
  mem2 := by simp
  zf2 := by simp [D.i2z.symm, D.l2z.symm]
  Tf2 := by simp [D.TOi2, D.l2TO.symm]
  sep1_2 := by simp [D.i12, D.l2i1.symm]
  sep2_1 := by simp [D.i12.symm, D.l1i2.symm]
theorem zs_item {Q : Option Value → Shared → Prop} (hh : A.handled = none) (D : ZipApart z TI TO i1 i2 l1 l2) (Z : ZS s.heap z TI TO i1 i2 l1 l2 S xs ys i) (hi : i < xs.size) (hi2 : i < ys.size) (hS : S < s.heap.objs.size)
    (hQ : ∀ h' tk u v, xs[i]? = some u → ys[i]? = some v → ZS h' z TI TO i1 i2 l1 l2 S xs ys (i + 1) → IsTupOf2 h' s.heap.objs.size u v → (∀ c o, c ∉ [z, TO, i1, i2] → s.heap.get? c = some o → h'.get? c = some o) → Q (some (.ref s.heap.objs.size)) { s with heap := h', toks := tk }) :
    wpAny (model prog w) A (pyNext (.ref z)) Q E s := by
  have out : ∀ {h' : Heap}, (∀ c o, c ≠ z → c ≠ TO → c ≠ i1 → c ≠ i2 → s.heap.get? c = some o → h'.get? c = some o) → ∀ c o, c ∉ [z, TO, i1, i2] → s.heap.get? c = some o → h'.get? c = some o := fun k c o hc e =>
    k c o (fun q => hc (by simp [q])) (fun q => hc (by simp [q])) (fun q => hc (by simp [q])) (fun q => hc (by simp [q])) e
  obtain ⟨p, q, hTO⟩ := Z.to
  rcases Z.zz with hz | ⟨T, f, oT, hz, hT, n1, n2, n3, n4, n5⟩
  · refine wpAny_pyNext_zipD2_item (zsep D) (Draws.tuple (prog := prog) (w := w) (A := A.in1) hh i1 l1 D.l1i1 xs) (Draws.list (prog := prog) (w := w) (A := A.in1) hh i2 l2 D.l2i2 ys) hz Z.ti hTO ⟨Z.s1, Z.t1⟩ ⟨Z.s2, Z.t2⟩ hi hi2 fun x1 x2 h' tk y1 y2 b1 b2 d1 d2 b5 b6 hk => ?_
    have lt : ∀ {c o}, s.heap.get? c = some o → s.heap.objs.size ≠ c := fun e => Nat.ne_of_gt (Heap.lt_size e)
    have g1 : s.heap.objs.size ≠ i1 := by obtain ⟨_, e, _⟩ := Z.s1; exact lt e
    have g2 : s.heap.objs.size ≠ i2 := by obtain ⟨_, e, _⟩ := Z.s2; exact lt e
    exact hQ h' tk x1 x2 y1 y2 ⟨Or.inr ⟨_, false, _, b1, b5, Nat.ne_of_gt hS, lt hz, lt hTO, g1, g2⟩, hk _ _ D.TIz D.TITO D.TIi1 D.TIi2 Z.ti, ⟨_, _, b2⟩, d1.1, d2.1, d1.2, d2.2⟩ b5 (out hk)
  · obtain ⟨u, hu⟩ : ∃ u, xs[i]? = some u := ⟨_, Array.getElem?_eq_getElem hi⟩
    obtain ⟨v, hv⟩ : ∃ v, ys[i]? = some v := ⟨_, Array.getElem?_eq_getElem hi2⟩
    refine zipTL_item D hz hT Z.ti Z.s1 Z.s2 Z.t1 Z.t2 hu hv fun h' a1 a2 a3 a4 hk => ?_
    exact hQ h' s.toks u v hu hv ⟨Or.inr ⟨T, true, oT, a1, hk _ _ n2 n4 n5 hT, n1, n2, n3, n4, n5⟩, hk _ _ D.TIz D.TIi1 D.TIi2 Z.ti, ⟨p, q, hk _ _ D.TOz D.TOi1 D.TOi2 hTO⟩, a2, a3, Z.t1.at fun o e => hk _ o D.l1z D.l1i1 D.l1i2 e, Z.t2.at fun o e => hk _ o D.l2z D.l2i1 D.l2i2 e⟩ a4
      (out fun c o c1 _ c3 c4 e => hk c o c1 c3 c4 e)
theorem zs_end {Q : Option Value → Shared → Prop} (hh : A.handled = none) (D : ZipApart z TI TO i1 i2 l1 l2) (Z : ZS s.heap z TI TO i1 i2 l1 l2 S xs ys i) (hi : i ≤ xs.size) (hi2 : i ≤ ys.size) (hend : i = xs.size ∨ i = ys.size)
    (hQ : ∀ h' tk, (∀ c o, c ∉ [z, TO, i1, i2] → s.heap.get? c = some o → h'.get? c = some o) → Q none { s with heap := h', toks := tk }) : wpAny (model prog w) A (pyNext (.ref z)) Q E s := by
  have out : ∀ {h' : Heap}, (∀ c o, c ≠ z → c ≠ TO → c ≠ i1 → c ≠ i2 → s.heap.get? c = some o → h'.get? c = some o) → ∀ c o, c ∉ [z, TO, i1, i2] → s.heap.get? c = some o → h'.get? c = some o := fun k c o hc e =>
    k c o (fun q => hc (by simp [q])) (fun q => hc (by simp [q])) (fun q => hc (by simp [q])) (fun q => hc (by simp [q])) e
  obtain ⟨p, q, hTO⟩ := Z.to
  rcases Z.zz with hz | ⟨T, f, oT, hz, hT, _⟩
  · exact wpAny_pyNext_zipD2_end (zsep D) (Draws.tuple (prog := prog) (w := w) (A := A.in1) hh i1 l1 D.l1i1 xs) (Draws.list (prog := prog) (w := w) (A := A.in1) hh i2 l2 D.l2i2 ys) hz Z.ti hTO ⟨Z.s1, Z.t1⟩ ⟨Z.s2, Z.t2⟩ hi hi2 hend fun h' tk hk => hQ h' tk (out hk)
  · refine zipTL_end hh D hz hT Z.ti Z.s1 Z.s2 Z.t1 Z.t2 (hend.elim (fun e => Or.inl ?_) fun e => Or.inr ?_) fun h' hk => hQ h' s.toks (out fun c o c1 _ c3 c4 e => hk c o c1 c3 c4 e)
    · exact Array.getElem?_eq_none (by omega)
    · exact Array.getElem?_eq_none (by omega)
end
section
variable {X : Cx} {pins : List (Addr × Obj)} {σ : L2.St}
theorem upd_turn {H : Hp} {S T : Addr} {a b c : HO} (h : T ≠ S) : upd (upd (upd H S a) T b) S c = upd (upd H T b) S c := by
  funext x
  by_cases e : x = S
  · subst e
    rw [upd_same, upd_same]
  · rw [upd_ne e, upd_ne e]
    by_cases e2 : x = T
    · subst e2
      rw [upd_same, upd_same]
    · rw [upd_ne e2, upd_ne e2, upd_ne e]
theorem zl_loop {R : Result → Shared → Prop} {z TI TO i1 i2 l1 l2 S : Addr} {xs ys : List V} {its its2 : List Value} {A : Around} (hh : A.handled = none) (D : ZipApart z TI TO i1 i2 l1 l2) (Pp : List Addr → Hp → Prop) (res : Value)
    (rv : Vals xs its) (rv2 : Vals ys its2) (hz : xs.length ≤ sizeLine) (nS : ∀ b ∈ [z, TI, TO, i1, i2, l1, l2], b ≠ S)
    (step : ∀ as H x y T, Pp as H → xs[as.length]? = some x → ys[as.length]? = some y → H T = none → Pp (as ++ [T]) (upd H T (.tup [x, y])))
    (fin : ∀ as H s', as.length = min xs.length ys.length → Pp as H → H S = none → Inv X pins σ (upd H S (.lst (as.map V.ref))) s' → R (.ok (.ret res)) s') :
    ∀ (k i : Nat) (s : Shared) (H : Hp) (as : List Addr), min xs.length ys.length - i = k → as.length = i → i ≤ min xs.length ys.length → Inv X pins σ (upd H S (.lst (as.map V.ref))) s → H S = none → Pp as H → ZS s.heap z TI TO i1 i2 l1 l2 S its.toArray its2.toArray i →
      (∀ b ∈ [z, TO, i1, i2], FpOk X pins H b) → codeAny (model X.prog X.w) A (.builtin "list.extend.loop" ⟨[.ref S, .ref z, res], []⟩) R s := by
  have e1 : its.toArray.size = xs.length := by rw [List.size_toArray, rv.length]
  have e2 : its2.toArray.size = ys.length := by rw [List.size_toArray, rv2.length]
  have sub : ∀ b ∈ [z, TO, i1, i2], b ≠ S := fun b hb => nS b (by
    simp only [List.mem_cons, List.not_mem_nil, or_false] at hb ⊢
    rcases hb with e | e | e | e <;> simp [e])
  intro k
  induction k with
  | zero =>
    intro i s H as hk hl hi I hS hp Z hf
    refine codeAny_builtin PySem.F.entry_extend_loop ?_
    rw [Around.under_plainId PySem.F.plain_extend_loop _]
    show wpAny _ A.in1 (pyNext (.ref z) >>= _) _ _ s
    refine wpAny_bind (zs_end (A := A.in1) hh D Z (by omega) (by omega) (by omega) fun h' tk hk' => ?_)
    exact wpAny_pure (fin as H _ (by omega) hp hS (I.turnedL (ch := [z, TO, i1, i2]) hk' fun b hb => FpOk.to (hf b hb) (by rw [upd_ne (sub b hb)]; exact (hf b hb).1)))
  | succ k ih =>
    intro i s H as hk hl hi I hS hp Z hf
    refine codeAny_builtin PySem.F.entry_extend_loop ?_
    rw [Around.under_plainId PySem.F.plain_extend_loop _]
    show wpAny _ A.in1 (pyNext (.ref z) >>= _) _ _ s
    have hSl : S < s.heap.objs.size := I.hok.lt upd_same
    refine wpAny_bind (zs_item (A := A.in1) hh D Z (by omega) (by omega) hSl fun h' tk u v hu hv Z' hT hk' => ?_)
    obtain ⟨x, hx⟩ : ∃ x, xs[i]? = some x := ⟨_, List.getElem?_eq_getElem (by omega)⟩
    obtain ⟨y, hy⟩ : ∃ y, ys[i]? = some y := ⟨_, List.getElem?_eq_getElem (by omega)⟩
    obtain ⟨u', hu', ru⟩ := rv.get hx
    obtain ⟨v', hv', rvv⟩ := rv2.get hy
    have : u' = u := by
      have hu2 : its[i]? = some u := by simpa using hu
      rw [hu2] at hu'
      cases hu'
      rfl
    subst this
    have : v' = v := by
      have hv2 : its2[i]? = some v := by simpa using hv
      rw [hv2] at hv'
      cases hv'
      rfl
    subst this
    have TS : s.heap.objs.size ≠ S := Nat.ne_of_gt hSl
    have hHT : H s.heap.objs.size = none := by
      have := I.hok.fresh (Nat.le_refl s.heap.objs.size)
      rwa [upd_ne TS] at this
    have I1 : Inv X pins σ (upd (upd H S (.lst (as.map V.ref))) s.heap.objs.size (.tup [x, y])) { s with heap := h', toks := tk } :=
      I.turnedNew (ch := [z, TO, i1, i2]) hk' (fun b hb => FpOk.to (hf b hb) (by rw [upd_ne (sub b hb)]; exact (hf b hb).1)) (Nat.le_refl _) ⟨by show 2 ≤ sizeLine; decide, [u', v'], .cons ru (.cons rvv .nil), ⟨_, hT, rfl, _, rfl⟩⟩
    have hSS : upd (upd H S (.lst (as.map V.ref))) s.heap.objs.size (.tup [x, y]) S = some (.lst (as.map V.ref)) := by rw [upd_ne TS.symm, upd_same]
    obtain ⟨its', n', r', e', _⟩ := I1.lst hSS
    have l' : its'.length = i := by rw [← r'.length, List.length_map, hl]
    show wpAny _ A.in1 (updateSeq S (·.push (.ref s.heap.objs.size)) >>= _) _ _ _
    refine wpAny_bind ?_
    have I2 := I1.lset (t' := tk) (ys := (as ++ [s.heap.objs.size]).map V.ref) (its' := its' ++ [.ref s.heap.objs.size]) (f := (·.push (.ref s.heap.objs.size))) hSS e' (by simp) (by rw [List.map_append]; exact r'.append (.cons rfl .nil)) (by rw [List.length_map, List.length_append, List.length_singleton]; omega)
    rw [upd_turn TS] at I2
    refine wpAny_updateSeq e' rfl (wpAny_pure ⟨plainId_quiet PySem.F.plain_extend_loop _, ih (i + 1) _ (upd H s.heap.objs.size (.tup [x, y])) (as ++ [s.heap.objs.size]) (by omega) (by rw [List.length_append, hl]; rfl) (by omega) I2 (by rw [upd_ne TS.symm]; exact hS) (step as H x y _ hp (by rw [hl]; exact hx) (by rw [hl]; exact hy) hHT)
      (Z'.keep nS fun b o hb e => (Heap.get?_update_other _ _ (Ne.symm hb)).trans e) fun b hb => ?_⟩) (by rw [List.size_toArray, l']; omega) (by show (its'.toArray.push _).size ≤ sizeLine + 1; rw [Array.size_push, List.size_toArray, l']; omega)
    refine FpOk.to (hf b hb) ?_
    have nb : b ≠ s.heap.objs.size := by
      have hb' : b = z ∨ b = TO ∨ b = i1 ∨ b = i2 := by simpa using hb
      rcases hb' with e | e | e | e
      · subst e
        rcases Z.zz with q | ⟨_, _, _, q, _⟩
        · exact Nat.ne_of_lt (Heap.lt_size q)
        · exact Nat.ne_of_lt (Heap.lt_size q)
      · subst e
        obtain ⟨_, _, q⟩ := Z.to
        exact Nat.ne_of_lt (Heap.lt_size q)
      · subst e
        obtain ⟨_, q, _⟩ := Z.s1
        exact Nat.ne_of_lt (Heap.lt_size q)
      · subst e
        obtain ⟨_, q, _⟩ := Z.s2
        exact Nat.ne_of_lt (Heap.lt_size q)
    rw [upd_ne nb]
    exact (hf b hb).1
end
end Cr

set_option Elab.async false
set_option linter.all false
set_option maxRecDepth 100000
set_option maxHeartbeats 4000000
namespace Cr
open PySem PySem.Spec PyProof.Rows L2
section
variable {X : Cx} {pins : List (Addr × Obj)} {σ : L2.St}
theorem zl_call {H : Hp} {s : Shared} {z TI TO i1 i2 l1 l2 : Addr} {xs ys : List V} {its its2 : List Value} {Q : VK} (hh : X.A.handled = none) (D : ZipApart z TI TO i1 i2 l1 l2) (Pp : List Addr → Hp → Prop)
    (rv : Vals xs its) (rv2 : Vals ys its2) (hz : xs.length ≤ sizeLine) (I : Inv X pins σ H s) (Z : ∀ S, S = s.heap.objs.size → ZS s.heap z TI TO i1 i2 l1 l2 S its.toArray its2.toArray 0) (hf : ∀ b ∈ [z, TO, i1, i2], FpOk X pins H b)
    (low : ∀ b ∈ [z, TI, TO, i1, i2, l1, l2], b < s.heap.objs.size) (p0 : Pp [] H)
    (step : ∀ as H x y T, Pp as H → xs[as.length]? = some x → ys[as.length]? = some y → H T = none → Pp (as ++ [T]) (upd H T (.tup [x, y])))
    (fin : ∀ as H S, as.length = min xs.length ys.length → Pp as H → H S = none → Q (.ref S) (upd H S (.lst (as.map V.ref)))) :
    wpAny (model X.prog X.w) X.A (call (.type "list") [.ref z]) (EP X pins σ Q) X.xe s := by
  have zS : s.heap.objs.size ≠ z := Nat.ne_of_gt (low z (by simp))
  refine callType_codes (Q₁ := fun obj s₁ => obj = .ref s.heap.objs.size ∧ s₁ = { s with heap := s.heap.push { cls := .type "list", data := .seq #[] } }) PySem.F.called_list (PySem.F.typeCall_list_1 _) PySem.F.entry_list_init
    (code_list_new _ ⟨rfl, rfl⟩) fun obj s₁ h₁ => ?_
  obtain ⟨rfl, rfl⟩ := h₁
  have hS : (s.heap.push { cls := .type "list", data := .seq #[] }).get? s.heap.objs.size = some { cls := .type "list", data := .seq #[] } := Heap.get?_push_size _ rfl
  refine ⟨⟨_, hS, rfl⟩, PySem.F.args_list_init_2 _ _, ?_⟩
  show wpAny _ X.A.in1.in1 (do let old ← Builtin.List.listItems (.ref s.heap.objs.size); Builtin.List.listUpdate (.ref s.heap.objs.size) (fun _ => #[]); letGo old.toList.reverse; Builtin.List.listExtendWith (.ref s.heap.objs.size) (.ref z) .none) _ _ _
  refine wpAny_bind ?_
  unfold Builtin.List.listItems
  refine wpAny_bind (wpAny_seqItems hS rfl (wpAny_pure ?_))
  show wpAny _ X.A.in1.in1 (updateSeq s.heap.objs.size (fun _ => #[]) >>= fun _ => letGo (#[] : Array Value).toList.reverse >>= fun _ => Builtin.List.listExtendWith (.ref s.heap.objs.size) (.ref z) .none) _ _ _
  refine wpAny_bind (wpAny_updateSeq hS rfl ?_)
  have hS2 := Heap.get?_update_self (Obj.mapSeq (fun _ => (#[] : Array Value))) hS rfl
  refine wpAny_bind (wpAny_letGo ?_)
  unfold Builtin.List.listExtendWith
  have up : ∀ (h : Heap) (f : Obj → Obj), (∀ b o, s.heap.get? b = some o → h.get? b = some o) → ∀ b o, s.heap.get? b = some o → (h.update s.heap.objs.size f).get? b = some o := fun h f q b o e =>
    (Heap.get?_update_other _ _ (Ne.symm (Nat.ne_of_lt (Heap.lt_size e)))).trans (q b o e)
  have k1 : ∀ b o, s.heap.get? b = some o → (s.heap.push { cls := .type "list", data := .seq #[] }).get? b = some o := fun b o e => Heap.get?_push_of_some _ e
  have k2 := up _ (Obj.mapSeq (fun _ => (#[] : Array Value))) k1
  have Z0 := (Z _ rfl).zz
  have hz0 : IsZip s.heap z TI TO .none ∨ ∃ (T : Addr) (f : Bool), IsZipHeld s.heap z TI TO T f := Z0.elim Or.inl fun ⟨T, f, _, q, _⟩ => Or.inr ⟨T, f, q⟩
  have zt : ∀ {h : Heap}, (∀ b o, s.heap.get? b = some o → h.get? b = some o) → ({ s with heap := h } : Shared).TypeIs (.ref z) "zip" := fun {h} q => hz0.elim (fun e => ⟨_, q _ _ e, rfl⟩) fun ⟨_, _, e⟩ => ⟨_, q _ _ e, rfl⟩
  refine wpAny_bind (wpAny_typeOf (zt k2) ?_)
  have h1 : Builtin.List.listSameRef (.ref s.heap.objs.size) (.ref z) = false := by simp [Builtin.List.listSameRef, zS]
  have h2 : (Value.type "zip" == Value.type "list") = false := by decide
  have h3 : (Value.type "zip" == Value.type "tuple") = false := by decide
  simp only [h1, h2, h3, Bool.or_false, Bool.false_eq_true, if_false]
  refine wpAny_bind ?_
  have it : ∀ {Q : Value → Shared → Prop} {E : Value → Shared → Prop} {h : Heap} {A : Around}, (∀ b o, s.heap.get? b = some o → h.get? b = some o) → Q (.ref z) { s with heap := h } → wpAny (model X.prog X.w) A (pyIter (.ref z)) Q E { s with heap := h } := fun {Q E h A} q hq => by
    refine wpAny_pyIter_slot (zt q) PySem.F.slot_zip_iter (wpAny_call_entry PySem.F.slot_zip_iter (zt q) PySem.F.entry_zip_iter ?_ (PySem.F.args_zip_iter_1 _))
    show wpAny _ _ (ret (.ref z)) _ _ _
    exact wpAny_pure ⟨_, rfl, "zip", _, zt q, PySem.F.slot_zip_next.lookup, hq⟩
  refine it k2 ?_
  refine wpAny_bind (wpAny_holding ?_)
  unfold Builtin.List.listLengthHint
  refine wpAny_bind (wpAny_specialOf (zt k2) zip_nolen ?_)
  show wpAny _ X.A.in1.in1 (specialOf (Value.ref z) (Str.ofString "__length_hint__") >>= _) _ _ _
  refine wpAny_bind (wpAny_specialOf (zt k2) zip_nohint ?_)
  refine wpAny_pure ?_
  show wpAny _ X.A.in1.in1 (rule "list.extend.makes-room" >>= fun _ => Builtin.List.listTouch (.ref s.heap.objs.size) >>= fun _ =>
    again (.builtin "list.extend.loop" ⟨[.ref s.heap.objs.size, .ref z, .none], []⟩)) _ _ _
  refine wpAny_bind (wpAny_rule ?_)
  refine wpAny_bind ?_
  show wpAny _ X.A.in1.in1 (updateSeq s.heap.objs.size (·.push .none) >>= fun _ => updateSeq s.heap.objs.size (·.pop)) _ _ _
  refine wpAny_bind (wpAny_updateSeq hS2 rfl ?_)
  have hS3 := Heap.get?_update_self (Obj.mapSeq (·.push Value.none)) hS2 rfl
  refine wpAny_updateSeq (hz := by seq_fits) hS3 rfl ?_
  have hS4 := Heap.get?_update_self (Obj.mapSeq (·.pop)) hS3 rfl
  have k4 := up _ (Obj.mapSeq (·.pop)) (up _ (Obj.mapSeq (·.push Value.none)) k2)
  refine wpAny_pure ⟨plainId_quiet PySem.F.plain_extend_loop _, ?_⟩
  have nS : ∀ b ∈ [z, TI, TO, i1, i2, l1, l2], b ≠ s.heap.objs.size := fun b hb => Nat.ne_of_lt (low b hb)
  have hS0 : H s.heap.objs.size = none := I.hok.fresh (Nat.le_refl _)
  refine zl_loop (X := X) (pins := pins) (σ := σ) (A := X.A.in1) hh D Pp .none rv rv2 hz nS step (fun as H2 s' hl hp hSn I2 => ?_) (min xs.length ys.length) 0 _ H [] (Nat.sub_zero _) rfl (Nat.zero_le _)
    (I.laid (t' := s.toks) k4 (Nat.le_refl _) ⟨Nat.zero_le _, [], _, .nil, hS4⟩) hS0 p0 ((Z _ rfl).keep nS fun b o _ e => k4 b o e) hf
  exact ⟨rfl, V.ref s.heap.objs.size, _, I2, rfl, fin as H2 _ hl hp hSn⟩
def tZL (K : PySem.W.Frag) (ta : TA) : TE := fun σ H Q => ta σ H fun vs H1 => ∃ a b xs ys, vs = [.ref a, .ref b] ∧ SqT K H1 a xs ∧ SqL K H1 b ys ∧ ∃ Pp : List Addr → Hp → Prop, Pp [] H1 ∧
  (∀ as H x y T, Pp as H → xs[as.length]? = some x → ys[as.length]? = some y → H T = none → Pp (as ++ [T]) (upd H T (.tup [x, y]))) ∧ ∀ as H S, as.length = min xs.length ys.length → Pp as H → H S = none → Q (.ref S) (upd H S (.lst (as.map V.ref)))
theorem pe_listZip {e e2 : Expr} {ta : TA} {p p2 pos pos2 : Pos} (hc : X.calm = true) (hg : Gl X "list") (hm : X.mg "list" = none) (gz : Gl X "zip") (mz : X.mg "zip" = none) (ha : PA X [e, e2] ta)
    (hs1 : starEach [.Call (.Name "zip" p2) [e, e2] [] pos2] X.env = (false, eval (.Call (.Name "zip" p2) [e, e2] [] pos2) X.env) :: starEach [] X.env := by rfl)
    (hs : starEach [e, e2] X.env = (false, eval e X.env) :: starEach [e2] X.env := by rfl) (hpl : (backTo pos2 (starEach [e2] X.env)).any (·.1) = false := by rfl) :
    PE X (.Call (.Name "list" p) [.Call (.Name "zip" p2) [e, e2] [] pos2] [] pos) (tZL X.K ta) := by
  refine ⟨fun pins s σ H Q I h => ?_⟩
  refine Call_ (ld_blt I hg hm Pv.boot_list (PyProof.Rows.callWith_type1 ?_ hs1 rfl))
  rw [hs1]
  show wpAny _ _ (spliced ((false, eval (.Call (.Name "zip" p2) [e, e2] [] pos2) X.env) :: backTo pos (starEach [] X.env))) _ _ s
  refine Calls.spliced_cons ?_
  refine Call_ (ld_blt I gz mz PyProof.Rows.boot_zip (PyProof.Rows.callWith_type1 (thn (ha.run pos2 pins s σ H _ I h) fun us s1 ⟨vs, H1, I1, r1, q1⟩ => ?_) hs hpl))
  obtain ⟨a, b, xs, ys, ex, hqx, hqy, Pp, p0, step, fin⟩ := q1
  subst ex
  cases r1 with
  | cons r rr =>
    cases rr with
    | cons r' rr =>
      cases rr
      cases r
      cases r'
      obtain ⟨its, rv, p1, hz⟩ := I1.tuple hqx
      obtain ⟨its2, rv2, p3, _⟩ := I1.list hqy
      have la : a < s1.heap.objs.size := by
        obtain ⟨o1, ho1, _⟩ := id p1
        exact Heap.lt_size ho1
      have lb : b < s1.heap.objs.size := p3.lt
      have p1' : s1.heap.IsTuple a its.toArray := p1
      refine zip_begins2 (begins_tuple a its.toArray) (begins_list b its2.toArray) p1' p3.isList fun h' hzz hTI hTO h1 h2 hsz hk => ?_
      refine Calls.spliced_nil ?_
      have I2 : Inv X pins σ H1 { s1 with heap := h' } := I1.kept (t' := s1.toks) hk
      have fr : ∀ c, s1.heap.objs.size ≤ c → FpOk X pins H1 c := fun c hle => I1.fpOk hle (I1.hok.fresh hle)
      refine zl_call (X := X) (pins := pins) (σ := σ) (I.ok.hd hc) (PySem.W.ktu_apart s1.heap.objs.size a b la lb) Pp rv rv2 hz I2 (fun S _ => ⟨Or.inl hzz, hTI, ⟨_, _, hTO⟩, ⟨_, h1, rfl, rfl⟩, ⟨_, h2, rfl, rfl⟩, p1'.at fun o q => hk _ o q, p3.isList.at fun o q => hk _ o q⟩) (fun c hcm => ?_) (fun c hcm => ?_) p0 step fin
      · simp only [List.mem_cons, List.not_mem_nil, or_false] at hcm
        refine fr c ?_
        rcases hcm with e | e | e | e <;> subst e <;> first | exact Nat.le_add_right _ _ | exact Nat.le_refl _
      · simp only [List.mem_cons, List.not_mem_nil, or_false] at hcm
        show c < h'.objs.size
        rw [hsz]
        have la' : (a : Nat) < s1.heap.objs.size := la
        have lb' : (b : Nat) < s1.heap.objs.size := lb
        rcases hcm with e | e | e | e | e | e | e <;> subst e
        · exact Nat.lt_succ_self _
        · exact Nat.add_lt_add_left (by decide) _
        · exact Nat.add_lt_add_left (by decide) _
        · exact Nat.lt_add_of_pos_right (by decide)
        · exact Nat.add_lt_add_left (by decide) _
        · exact Nat.lt_of_lt_of_le la (Nat.le_add_right _ _)
        · exact Nat.lt_of_lt_of_le lb (Nat.le_add_right _ _)
end
section
variable {ι : Type} {F : ι → Cx} {P : Program} {w : World} {K : PySem.W.Frag} {mg : Str → Option Value} {base : Heap} {N : List Str} {k : Nat} {sc : Scope} {W : Wd} {env : List Sl}
def zipD (ds es : List PyData) : List PyData := (ds.zip es).map fun p => .tuple [p.1, p.2]
theorem zipD_take (ds es : List PyData) (i : Nat) {d e : PyData} (h1 : ds[i]? = some d) (h2 : es[i]? = some e) : (zipD ds es).take (i + 1) = (zipD ds es).take i ++ [.tuple [d, e]] := by
  have : (zipD ds es)[i]? = some (.tuple [d, e]) := by
    unfold zipD
    rw [List.getElem?_map, show (ds.zip es)[i]? = some (d, e) from List.getElem?_zip_eq_some.mpr ⟨h1, h2⟩]
    rfl
  rw [List.take_succ, this]
  rfl
theorem zipD_len (ds es : List PyData) : (zipD ds es).length = min ds.length es.length := by unfold zipD; rw [List.length_map, List.length_zip]
/-- list(zip(t, l)) -/
theorem e_listZip (fm : Fam P w K mg base N k sc F) {e e2 : Expr} {p p2 pos pos2 : Pos} {ds es : List PyData} (ha : A1 F W K [e, e2] env [.tuple ds, .list es]) (hm : mg "list" = none) (mz : mg "zip" = none) (hg : glB sc "list" = true := by decide +kernel) (gz : glB sc "zip" = true := by decide +kernel)
    (hs1 : ∀ i, starEach [.Call (.Name "zip" p2) [e, e2] [] pos2] (F i).env = (false, eval (.Call (.Name "zip" p2) [e, e2] [] pos2) (F i).env) :: starEach [] (F i).env := by intro _; rfl)
    (hs : ∀ i, starEach [e, e2] (F i).env = (false, eval e (F i).env) :: starEach [e2] (F i).env := by intro _; rfl) (hpl : ∀ i, (backTo pos2 (starEach [e2] (F i).env)).any (·.1) = false := by intro _; rfl) :
    E1 F W K (.Call (.Name "list" p) [.Call (.Name "zip" p2) [e, e2] [] pos2] [] pos) env (.dat (.list (zipD ds es))) := by
  intro σ H i sd Q q
  refine ⟨tZL K (WA F [e, e2]), fun z => ?_, ?_⟩
  · have := pe_listZip (X := F z) (p := p) (p2 := p2) (pos := pos) (pos2 := pos2) (fm.ca z) (gl_of (fm.es z) hg) (by rw [fm.mg z]; exact hm) (gl_of (fm.es z) gz) (by rw [fm.mg z]; exact mz) (wa_pa (F := F) (es := [e, e2]) z) (hs1 z) (hs z) (hpl z)
    rwa [fm.kk z] at this
  · refine ha σ H i sd _ fun vs H1 rs x1 i1 d1 h1 => ?_
    subst h1
    have dn := dn_of_sd d1
    cases dn with
    | cons a t =>
      cases t with
      | cons b t =>
        cases t
        cases a with
        | @tup pa xs _ la da =>
          cases b with
          | @lst pb ys _ lb db =>
            refine ⟨pa, pb, xs, ys, rfl, la.sq, lb.sq, fun as H2 => Wx W H1 H2 ∧ W.I H2 ∧ DnAll W K H2 (as.map V.ref) ((zipD ds es).take as.length), ⟨Wx.refl W H1, i1, .nil⟩, ?_, ?_⟩
            · rintro as H2 x y T ⟨x2, i2, d2⟩ hx hy hT
              obtain ⟨d, hd1, dn1⟩ := da.getV hx
              obtain ⟨d', hd2, dn2⟩ := db.getV hy
              obtain ⟨x3, i3, dT⟩ := new_tup (K := K) (vs := [x, y]) (ds := [d, d']) i2 hT (.cons (dn1.mono x2) (.cons (dn2.mono x2) .nil))
              refine ⟨x2.trans x3, i3, ?_⟩
              rw [List.map_append, List.length_append, List.length_singleton, zipD_take ds es as.length hd1 hd2]
              exact (d2.mono x3).append (.cons dT .nil)
            · rintro as H2 S hl ⟨x2, i2, d2⟩ hS
              rw [List.take_of_length_le (by rw [zipD_len, hl, da.length, db.length]; exact Nat.le_refl _)] at d2
              obtain ⟨x3, i3, d3⟩ := new_lst i2 hS d2
              exact q _ _ _ ((x1.trans x2).trans x3) i3 d3.dv rfl
end
end Cr

set_option Elab.async false
set_option linter.all false
set_option maxRecDepth 100000
set_option maxHeartbeats 200000
namespace Cr
open PySem PySem.Spec PyProof.Rows L2

/-! ## comprehensions over a list of pairs, two names -/
section
variable {ι : Type} {F : ι → Cx} {P : Program} {w : World} {K : PySem.W.Frag} {mg : Str → Option Value} {base : Heap} {N : List Str} {k : Nat} {sc : Scope} {W : Wd} {env : List Sl}
theorem dn_tup2 {H : Hp} {v : V} {a b : PyData} (h : Dn W K H v (.tuple [a, b])) : ∃ p ua ub, v = .ref p ∧ SqT K H p [ua, ub] ∧ Dn W K H ua a ∧ Dn W K H ub b := by
  cases h with
  | tup la d =>
    cases d with
    | cons x t =>
      cases t with
      | cons y t =>
        cases t
        exact ⟨_, _, _, rfl, la.sq, x, y⟩
theorem wipe_set2 {σ : L2.St} {v u : V} {j j2 : Nat} (h : j ≠ j2) : L2.wipe (((L2.wipe σ [j, j2]).set j (some v)).set j2 (some u)) [j, j2] = L2.wipe σ [j, j2] := by
  show ((((((σ.set j2 none).set j none).set j (some v)).set j2 (some u)).set j2 none).set j none) = (σ.set j2 none).set j none
  rw [List.set_set, List.set_set, List.set_comm (some v) none h, List.set_set, List.set_set]
theorem lc_turns2 {elt : Expr} {ifs : List Expr} {scope : Scope} {j j2 : Nat} {ds : List PyData} {xs : List V} {a D : Addr} {H1 : Hp} {σ : L2.St} {f : Nat → Bool} {R : Nat → PyData → Prop} {Q : VK} (i1 : W.I H1) (sd : Sd W K H1 σ env) (la : LA W K H1 a xs) (da : DnAll W K H1 xs ds) (hD : H1 D = none) (hz : ds.length ≤ sizeLine)
    (hj : j ≠ j2) (hpr : ∀ (i : Nat) (d : PyData), ds[i]? = some d → ∃ a b, d = PyData.tuple [a, b]) (ht : ∀ (i : Nat) (a b : PyData) D acc, ds[i]? = some (PyData.tuple [a, b]) → ¬ W.M D → EvIf (FB F scope) (W.plus D (.lst acc)) K ifs (((wipeE env [j, j2]).set j (.dat a)).set j2 (.dat b)) (f i))
    (he : ∀ (i : Nat) (a b : PyData) D acc, ds[i]? = some (PyData.tuple [a, b]) → f i = true → ¬ W.M D → Ev (FB F scope) (W.plus D (.lst acc)) K elt (((wipeE env [j, j2]).set j (.dat a)).set j2 (.dat b)) fun s => ∃ e, s = .dat e ∧ R i e)
    (q : ∀ H' es, Wx W H1 H' → W.I H' → Dn W K H' (.ref D) (.list es) → Paired (fun i e => R i e) ((List.range ds.length).filter f) es → Q (.ref D) H') :
    ∃ Wl : Nat → Nat → Hp → Prop, (∃ m, Wl 0 m (upd H1 D (.lst []))) ∧ ∀ i m H, Wl i m H →
      ((Itl K a).stop i H ∧ Q (.ref D) H) ∨ ((Itl K a).go i H ∧ ∃ Nx : Hp → Prop, (∀ H', Nx H' → ∃ m', m' < m ∧ Wl (i + 1) m' H') ∧ ∀ x H', (Itl K a).yld i H x H' → gTup K 2 (gCons (gName j) (gCons (gName j2) gNil)) x (L2.wipe σ [j, j2]) H' fun σ2 H2 => L2.wipe σ2 [j, j2] = L2.wipe σ [j, j2] ∧ WTs (FB F scope) ifs σ2 H2 fun b H3 =>
        if b = true then WE (FB F scope) elt σ2 H3 fun y H4 => ∃ acc, H4 D = some (.lst acc) ∧ acc.length < sizeLine ∧ Nx (upd H4 D (.lst (acc ++ [y]))) else Nx H3) := by
  have nD : ¬ W.M D := fun m => W.has H1 D i1 m hD
  refine lc_list (K := K) (a := a) (xs := xs) (fun i H' => ∃ acc es, (W.plus D (.lst acc)).I H' ∧ Wx (W.plus D (.lst acc)) H1 H' ∧ DnAll (W.plus D (.lst acc)) K H' acc es ∧ Paired (fun i e => R i e) ((List.range i).filter f) es) ?_ ?_ ?_ ?_
  · exact ⟨[], [], ⟨W.mono _ _ i1 (Xt.new hD), upd_same⟩, fun p o _ h => Xt.new hD p o h, .nil, .nil⟩
  · intro i H' _ ⟨acc, es, _, x, _⟩
    refine SqL.of (x a _ (fun m => ?_) la.2)
    exact m.elim la.1 fun e => ne_of_none la.2 hD e
  · intro i x H' hx ⟨acc, es, ii, xx, dn, pr⟩
    obtain ⟨d, hd, dx⟩ := da.getV hx
    have to1 : ∀ b, H1 b ≠ none → (W.plus D (.lst acc)).M b → W.M b := plus_of hD
    obtain ⟨da, db, rfl⟩ := hpr i d hd
    obtain ⟨pa, ua, ub, rfl, sq2, dna, dnb⟩ := dn_tup2 ((dx.to to1).mono xx)
    · · refine ⟨pa, [ua, ub], rfl, sq2, rfl, ua, [ub], rfl, ub, [], rfl, rfl, ?_⟩
        have sd' : Sd (W.plus D (.lst acc)) K H' (((L2.wipe σ [j, j2]).set j (some ua)).set j2 (some ub)) (((wipeE env [j, j2]).set j (.dat da)).set j2 (.dat db)) :=
          Sd.set dnb.dv j2 (Sd.set dna.dv j (((sd.to to1).wipe [j, j2]).mono xx))
        refine ⟨wipe_set2 hj, ?_⟩
        refine ht i da db D acc hd nD _ H' ii sd' _ fun H3 x3 i3 => ?_
        have lt : acc.length ≤ i := by
          have l1 := dn.length
          have l2 := Paired.length pr
          have l3 := List.length_filter_le f (List.range i)
          rw [List.length_range] at l3
          omega
        have il : i < ds.length := (List.getElem?_eq_some_iff.mp hd).1
        cases hf : f i with
        | true =>
          refine he i da db D acc hd hf nD _ H3 i3 (sd'.mono x3) _ fun y H4 r x4 i4 d4 h4 => ?_
          obtain ⟨e, rfl, hR⟩ := h4
          obtain ⟨u, z, dy⟩ := d4
          cases z
          have up : Wx (W.plus D (.lst acc)) H4 (upd H4 D (.lst (acc ++ [y]))) := fun p o n h => by
            rw [upd_ne fun z => n (Or.inr z)]
            exact h
          refine ⟨acc, i4.2, by omega, acc ++ [y], es ++ [e], ⟨W.loc _ _ i4.1 fun b m => upd_ne fun z => nD (z ▸ m), upd_same⟩, ?_, ?_, ?_⟩
          · intro p o n h
            exact up p o n (x4 p o n (x3 p o n (xx p o n h)))
          · refine DnAll.to (W := W.plus D (.lst acc)) (W' := W.plus D (.lst (acc ++ [y]))) (fun _ _ m => m) (DnAll.mono up ?_)
            exact ((dn.mono x3).mono x4).append (.cons dy .nil)
          · rw [List.range_succ, List.filter_append, List.filter_cons, if_pos hf]
            exact paired_app pr (.cons hR .nil)
        | false =>
          refine ⟨acc, es, i3, fun p o n h => x3 p o n (xx p o n h), dn.mono x3, ?_⟩
          rw [List.range_succ, List.filter_append, List.filter_cons, if_neg (by rw [hf]; exact Bool.false_ne_true)]
          show Paired _ (_ ++ []) es
          rw [List.append_nil]
          exact pr
  · intro H' ⟨acc, es, ii, xx, dn, pr⟩
    rw [da.length] at pr
    refine q H' es (fun p o n h => xx p o (fun m => m.elim n fun z => ?_) h) ii.1 ?_ pr
    · rw [z, hD] at h
      exact nomatch h
    · exact .lst ⟨nD, ii.2⟩ (DnAll.to (W := W.plus D (.lst acc)) (W' := W) (fun _ _ m => Or.inl m) dn)

def nmB (sc scope : Scope) (x : Str) : Bool := locB (relS scope sc) x && (scope.names.lookup x == some .cell || (relS scope sc).names.lookup x == some .local)
def lcB2 (N : List Str) (sc scope : Scope) (x y : Str) (j j2 : Nat) : Bool := blkC N sc scope [(x, j), (y, j2)] && (nmB sc scope x && nmB sc scope y)
theorem lc_nm (fm : Fam P w K mg base N k sc F) {x : Str} {j : Nat} {scope : Scope} {px : Pos} (o : nmB sc scope x = true) (hN : N[j]? = some x) (z : ι) (s : Shared) (H : Hp) (C : Addr) (cl : List (Str × Addr)) (fp : List Addr) : PG ((F z).blk s H scope (compEnvC scope cl C (F z).env) fp) (.Name x px) (gName j) := by
  unfold nmB at o
  rw [Bool.and_eq_true, Bool.or_eq_true] at o
  obtain ⟨o2, o3⟩ := o
  have es : (relabel scope (F z).env) = relS scope sc := by rw [← fm.es z] <;> rfl
  refine pg_name (by show (F z).N.Nodup; rw [fm.nn z]; exact fm.nd) (by show (F z).N[j]? = _; rw [fm.nn z]; exact hN) (loc_of es o2) ?_
  rcases o3 with o3 | o3
  · exact Or.inl o3
  · refine Or.inr ?_
    show (relabel scope (F z).env).names.lookup x = _
    rw [es]
    exact beq_iff_eq.mp o3
theorem lc_split {x y : Str} {j j2 : Nat} {scope : Scope} (o : lcB2 N sc scope x y j j2 = true) : blkC N sc scope [(x, j), (y, j2)] = true ∧ nmB sc scope x = true ∧ nmB sc scope y = true := by
  unfold lcB2 at o
  rw [Bool.and_eq_true, Bool.and_eq_true] at o
  exact o
theorem lc_ok2 (fm : Fam P w K mg base N k sc F) {x y : Str} {j j2 : Nat} {scope : Scope} (o : lcB2 N sc scope x y j j2 = true) (z : ι) : BlkOk (F z).N (F z).env.scope scope [(x, j), (y, j2)] := by
  rw [fm.nn z, fm.es z]
  exact blkOk_by (lc_split o).1
theorem lc_kind2 {x y : Str} {j j2 : Nat} {scope : Scope} (o : lcB2 N sc scope x y j j2 = true) : scope.kind = .function := (blkOk_by (lc_split o).1).kind
theorem lc_gPair (fm : Fam P w K mg base N k sc F) {x y : Str} {j j2 kk : Nat} {scope : Scope} {px py tpos : Pos} (o : lcB2 N sc scope x y j j2 = true) (hN : N[j]? = some x) (hN2 : N[j2]? = some y) (z : ι) (s : Shared) (H : Hp) (C : Addr) (cl : List (Str × Addr)) (fp : List Addr) :
    PG ((F z).blk s H scope (compEnvC scope cl C (F z).env) fp) (.Tuple [.Name x px, .Name y py] kk tpos) (gTup K 2 (gCons (gName j) (gCons (gName j2) gNil))) := by
  have := pg_tup (k := kk) (pos := tpos) ((fm.blk scope (lc_kind2 o)).ca (z, s, H, C, cl, fp)) (pgs_cons (lc_nm (px := px) fm (lc_split o).2.1 hN z s H C cl fp) (pgs_cons (lc_nm (px := py) fm (lc_split o).2.2 hN2 z s H C cl fp) pgs_nil)) (n := 2)
  rwa [show ((F z).blk s H scope (compEnvC scope cl C (F z).env) fp).K = K from fm.kk z] at this
/-- the reading of [elt for x, y in l if ..] -/
theorem lc_read2 {elt iter : Expr} {ifs : List Expr} {scope : Scope} {j j2 : Nat} {ds : List PyData} {f : Nat → Bool} {R : Nat → PyData → Prop} (hi : E1 F W K iter env (.dat (.list ds))) (hz : ds.length ≤ sizeLine)
    (hj : j ≠ j2) (hpr : ∀ (i : Nat) (d : PyData), ds[i]? = some d → ∃ a b, d = PyData.tuple [a, b]) (ht : ∀ (i : Nat) (a b : PyData) D acc, ds[i]? = some (PyData.tuple [a, b]) → ¬ W.M D → EvIf (FB F scope) (W.plus D (.lst acc)) K ifs (((wipeE env [j, j2]).set j (.dat a)).set j2 (.dat b)) (f i))
    (he : ∀ (i : Nat) (a b : PyData) D acc, ds[i]? = some (PyData.tuple [a, b]) → f i = true → ¬ W.M D → Ev (FB F scope) (W.plus D (.lst acc)) K elt (((wipeE env [j, j2]).set j (.dat a)).set j2 (.dat b)) fun s => ∃ e, s = .dat e ∧ R i e)
    (σ : L2.St) (H : Hp) (ii : W.I H) (sd : Sd W K H σ env) (Q : VK) (q : ∀ v H' es, Wx W H H' → W.I H' → Dn W K H' v (.list es) → Paired (fun i e => R i e) ((List.range ds.length).filter f) es → Q v H') :
    tLc (iList K (WE F iter)) (gTup K 2 (gCons (gName j) (gCons (gName j2) gNil))) (WTs (FB F scope) ifs) (WE (FB F scope) elt) [j, j2] σ H Q := by
  refine hi σ H ii sd _ fun v H1 r x1 i1 d1 h1 => ?_
  subst h1
  obtain ⟨u, z, n1⟩ := d1
  cases z
  cases n1 with
  | lst la da =>
    refine ⟨_, rfl, ⟨_, la.sq⟩, fun D hD => ?_⟩
    exact lc_turns2 i1 (sd.mono x1) la da hD hz hj hpr ht he fun H' es x' i' dn pr => q _ H' es (x1.trans x') i' dn pr
theorem ev_lc2 (fm : Fam P w K mg base N k sc F) {x y : Str} {px py tpos pos : Pos} {kk : Nat} {elt iter : Expr} {ifs : List Expr} {scope : Scope} {ds : List PyData} {f : Nat → Bool} {R : Nat → PyData → Prop} (j j2 : Nat) (hN : N[j]? = some x) (hN2 : N[j2]? = some y) (o : lcB2 N sc scope x y j j2 = true) (hi : E1 F W K iter env (.dat (.list ds)))
    (hj : j ≠ j2) (hpr : ∀ (i : Nat) (d : PyData), ds[i]? = some d → ∃ a b, d = PyData.tuple [a, b]) (ht : ∀ (i : Nat) (a b : PyData) D acc, ds[i]? = some (PyData.tuple [a, b]) → ¬ W.M D → Fam P w K mg base N k (relS scope sc) (FB F scope) → EvIf (FB F scope) (W.plus D (.lst acc)) K ifs (((wipeE env [j, j2]).set j (.dat a)).set j2 (.dat b)) (f i))
    (he : ∀ (i : Nat) (a b : PyData) D acc, ds[i]? = some (PyData.tuple [a, b]) → f i = true → ¬ W.M D → Fam P w K mg base N k (relS scope sc) (FB F scope) → Ev (FB F scope) (W.plus D (.lst acc)) K elt (((wipeE env [j, j2]).set j (.dat a)).set j2 (.dat b)) fun s => ∃ e, s = .dat e ∧ R i e)
    (hz : ds.length ≤ sizeLine) (hf : ∀ i x, foldedSetIterable iter (F i).env x = pure x := by intro _ _; rfl) :
    Ev F W K (.ListComp elt [⟨.Tuple [.Name x px, .Name y py] kk tpos, iter, ifs, 0⟩] scope pos) env fun s => ∃ es, s = .dat (.list es) ∧ Paired (fun i e => R i e) ((List.range ds.length).filter f) es := by
  intro σ H ii sd Q q
  refine ⟨_, fun z => ?_, lc_read2 hi hz hj hpr (fun i u v D acc a b => ht i u v D acc a b (fm.blk scope (lc_kind2 o))) (fun i u v D acc a b c => he i u v D acc a b c (fm.blk scope (lc_kind2 o))) σ H ii sd Q fun v H' es x' i' dn pr => q v H' _ x' i' dn.dv ⟨es, rfl, pr⟩⟩
  have h1 := pi_list (tg := .Tuple [.Name x px, .Name y py] kk tpos) (we_pe (F := F) (e := iter) z)
  rw [fm.kk z] at h1
  exact pe_lc (own := [(x, j), (y, j2)]) (fm.ca z) (by rw [fm.nn z]; exact fm.nd) h1 (lc_ok2 fm o z) (fun s H C cl fp => lc_gPair fm o hN hN2 z s H C cl fp) (fun s H C cl fp => wts_pts (F := FB F scope) (z, s, H, C, cl, fp)) (fun s H C cl fp => we_pe (F := FB F scope) (z, s, H, C, cl, fp)) (hf z)
end
end Cr

set_option Elab.async false
set_option linter.all false
set_option maxRecDepth 100000
set_option maxHeartbeats 400000
namespace Cr
open PySem PySem.Spec PyProof.Rows L2

/-! ## calls by keywords only, of defs that may raise -/
section
variable {X : Cx} {k : Nat} {f : Addr} {fd : FuncData} {ps ks : List Str} {sp : Sp} {x : Str} {p pos : Pos} {kws : List Keyword} {tk : TA} {wi : L2.WX} {g : List Value → List Value → List Value} {gV : List V → List V → List V}
theorem pe_callXK (F : FnX X.prog X.w X.K X.mg X.base k f fd ps sp) (tw : Takes X wi) (hg : X.A.guards = some []) (hr : Room k X.A) (gl : Gl X x) (hm : X.mg x = some (.ref f)) (hk : PySem.W.keepIn X.K (.ref f) = true) (hb : KBn X.K fd ps 0 ks g gV)
    (hkw : PK X kws tk) (hdb : (x == ("__debug__" : Str)) = false := by decide) (hall : (backToKw pos (keywordEach kws X.env)).all (·.1.isSome) = true := by rfl) (hks : (backToKw pos (keywordEach kws X.env)).filterMap (·.1) = ks := by rfl)
    (hpl : ((backTo pos (starEach [] X.env)).any (·.1) || (backToKw pos (keywordEach kws X.env)).any (·.1.isNone)) = false := by rfl) :
    PE X (.Call (.Name x p) [] kws pos) (fun σ H Q => tk σ H fun zs H1 => zs.length = ks.length ∧ sp (gV [] zs) H1 Q (fun cls d H2 => wi cls d σ H2)) := by
  constructor
  intro pins s σ H Q I h
  apply wpAny_Call_Name_kw (ld_glob I gl hm ?_ hdb)
  refine PySem.W.callWith_KW0 (h₀ := X.base) I.ok.mod.kin hk hall (thn (hkw.run pos pins s σ H _ I h) fun ws s2 ⟨zs, H2, I2, rz, l1, q2⟩ => ⟨I2.kIn, ?_⟩) hpl
  rw [hks]
  apply wpAny_call
  refine codeAny_mono (F.run X.A X.stack s2 H2 ⟨[], ks.zip ws⟩ (g [] ws) (gV [] zs) Q _ hg hr I2.env0 (hb.to s2 [] ws I2.kIn rfl (rz.length.symm.trans l1)) (hb.rel .nil rz) q2) ?_
  intro res s' hq
  match res, hq with
  | .ok (.ret u), hq => exact I2.after hq
  | .error u, hq => exact passAt tw σ pins H2 s2 u s' I2 hq
end
structure OwnM (P : Program) (w : World) (K : PySem.W.Frag) (mg : Str → Option Value) (base : Heap) (x : Str) (j : Nat) (ps : List Str) (sp : Sp) (ks : List Str) (gV : List V → List V → List V) : Prop where
  ex : ∃ (f : Addr) (fd : FuncData) (g : List Value → List Value → List Value), mg x = some (.ref f) ∧ PySem.W.keepIn K (.ref f) = true ∧ KBn K fd ps 0 ks g gV ∧ FnX P w K mg base j f fd ps sp
section
variable {ι : Type} {F : ι → Cx} {P : Program} {w : World} {K : PySem.W.Frag} {mg : Str → Option Value} {base : Heap} {N : List Str} {k : Nat} {sc : Scope} {W : Wd} {env : List Sl} {wi : L2.WX} {EX : Value → XD → Prop} {XE : List Sl → Prop}
def WKs (F : ι → Cx) : List Keyword → TA
  | [] => tNil
  | ⟨_, e, _⟩ :: r => tCons (WE F e) (WKs F r)
theorem wk_pk (z : ι) : ∀ {kws : List Keyword}, PK (F z) kws (WKs F kws)
  | [] => pk_nil
  | ⟨_, _, _⟩ :: _ => pk_cons (we_pe z) (wk_pk z)
def EvK (F : ι → Cx) (W : Wd) (K : PySem.W.Frag) (kws : List Keyword) (env : List Sl) (ds : List PyData) : Prop := ∀ (σ : L2.St) (H : Hp), W.I H → Sd W K H σ env → ∀ Q : List V → Hp → Prop, (∀ vs H', Wx W H H' → W.I H' → DnAll W K H' vs ds → Q vs H') → WKs F kws σ H Q
theorem k_nil : EvK F W K [] env [] := fun σ H i sd Q q => q [] H (Wx.refl W H) i .nil
theorem k_cons {nm : Option Str} {e : Expr} {kp : Pos} {kws : List Keyword} {d : PyData} {ds : List PyData} (h : E1 F W K e env (.dat d)) (hs : EvK F W K kws env ds) : EvK F W K (⟨nm, e, kp⟩ :: kws) env (d :: ds) := by
  intro σ H i sd Q q
  refine h σ H i sd _ fun v H1 r x1 i1 d1 h1 => ?_
  subst h1
  obtain ⟨u, z, dn⟩ := d1
  cases z
  exact hs σ H1 i1 (sd.mono x1) _ fun vs H2 x2 i2 d2 => q _ H2 (x1.trans x2) i2 (.cons (dn.mono x2) d2)
/-- f(k = v, ..) that does not raise -/
theorem ev_callKw (fm : Fam P w K mg base N k sc F) {x : Str} {j : Nat} {ps ks : List Str} {gV : List V → List V → List V} {Pre : List PyData → Prop} {Fn : List PyData → PyData → Prop} {Ex : List PyData → Value → XD → Prop} {p pos : Pos} {kws : List Keyword} {ds ds' : List PyData} (o : OwnM P w K mg base x j ps (spX K Pre Fn Ex) ks gV) (hj : j ≤ k) (ha : EvK F W K kws env ds)
    (hl : ds.length = ks.length) (hd : ∀ H vs, DnAll W K H vs ds → DnAll W K H (gV [] vs) ds') (hp : Pre ds') (hn : ∀ cls fs, ¬ Ex ds' cls fs) (hg : glB sc x = true := by decide +kernel) (hdb : (x == ("__debug__" : Str)) = false := by decide)
    (hall : ∀ i, (backToKw pos (keywordEach kws (F i).env)).all (·.1.isSome) = true := by intro _; rfl) (hks : ∀ i, (backToKw pos (keywordEach kws (F i).env)).filterMap (·.1) = ks := by intro _; rfl)
    (hpl : ∀ i, ((backTo pos (starEach [] (F i).env)).any (·.1) || (backToKw pos (keywordEach kws (F i).env)).any (·.1.isNone)) = false := by intro _; rfl) :
    Ev F W K (.Call (.Name x p) [] kws pos) env fun s => ∃ r, s = .dat r ∧ Fn ds' r := by
  obtain ⟨f, fd, g, hm, hk, hb, G⟩ := o.ex
  intro σ H i sd Q q
  refine ⟨fun σ H Q => WKs F kws σ H fun zs H1 => zs.length = ks.length ∧ spX K Pre Fn Ex (gV [] zs) H1 Q (fun _ _ _ => False), fun z => ?_, ?_⟩
  · have GG : FnX (F z).prog (F z).w (F z).K (F z).mg (F z).base j f fd ps (spX K Pre Fn Ex) := by rw [fm.pr z, fm.wo z, fm.kk z, fm.mg z, fm.ba z]; exact G
    exact pe_callXK (wi := fun _ _ _ _ => False) GG takes_none5 (fm.gu z) ((fm.ro z).mono hj) (gl_of (fm.es z) hg) (by rw [fm.mg z]; exact hm) (by rw [fm.kk z]; exact hk) (by rw [fm.kk z]; exact hb) (wk_pk z) hdb (hall z) (hks z) (hpl z)
  · refine ha σ H i sd _ fun vs H1 x1 i1 d1 => ⟨d1.length.trans hl, W, ds', i1, hd H1 vs d1, hp, fun r v H' hr x2 dn => q _ _ _ (x1.trans (x2.wx W)) (W.mono _ _ i1 x2) dn.dv ⟨r, rfl, hr⟩, fun cls fs d H' he => absurd he (hn _ _)⟩
/-- y = f(k = v, ..) that may raise -/
theorem bde_setM (fm : Fam P w K mg base N k sc F) (tk : ∀ i, Takes (F i) wi) {x y : Str} {j : Nat} {ps ks : List Str} {gV : List V → List V → List V} {Pre : List PyData → Prop} {Fn : List PyData → PyData → Prop} {Ex : List PyData → Value → XD → Prop} {p py pos spos : Pos} {kws : List Keyword} {ds ds' : List PyData} {rest : List Stmt} {Po : Post} (o : OwnM P w K mg base x j ps (spX K Pre Fn Ex) ks gV) (hj : j ≤ k)
    (n : Nat) (hN : N[n]? = some y) (ha : EvK F W K kws env ds) (hl : ds.length = ks.length) (hd : ∀ H vs, DnAll W K H vs ds → DnAll W K H (gV [] vs) ds') (hp : Pre ds')
    (hn : ∀ r, Fn ds' r → BdE F W K wi EX XE rest (env.set n (.dat r)) Po) (hx : ∀ cls fs, Ex ds' cls fs → EX cls fs ∧ XE env) (hg : glB sc x = true := by decide +kernel) (hdb : (x == ("__debug__" : Str)) = false := by decide)
    (hall : ∀ i, (backToKw pos (keywordEach kws (F i).env)).all (·.1.isSome) = true := by intro _; rfl) (hks : ∀ i, (backToKw pos (keywordEach kws (F i).env)).filterMap (·.1) = ks := by intro _; rfl)
    (hpl : ∀ i, ((backTo pos (starEach [] (F i).env)).any (·.1) || (backToKw pos (keywordEach kws (F i).env)).any (·.1.isNone)) = false := by intro _; rfl)
    (hx2 : locB sc y = true := by decide +kernel) (hs : ∀ i, swapsWith (.Call (.Name x p) [] kws pos) (some (.Name y py)) spos.line (F i).env = pure false := by intro _; rfl) (hl2 : lclB sc y = true := by decide +kernel) : BdE F W K wi EX XE (.Assign [.Name y py] (.Call (.Name x p) [] kws pos) spos :: rest) env Po := by
  obtain ⟨f, fd, g, hm, hk, hb, G⟩ := o.ex
  intro σ H D i sd gd hw
  refine ⟨tSeq (tAsg (fun σ H Q => WKs F kws σ H fun zs H1 => zs.length = ks.length ∧ spX K Pre Fn Ex (gV [] zs) H1 Q (fun cls d H2 => wi cls d σ H2)) (gName n)) (WS F rest), fun z => pss_cons (ps_set (by rw [fm.nn z]; exact fm.nd) (by rw [fm.nn z]; exact hN) (loc_of (fm.es z) hx2) ?_ (hs z) (Or.inr (lcl_of (fm.es z) hl2))) (ws_ps z), ?_⟩
  · have GG : FnX (F z).prog (F z).w (F z).K (F z).mg (F z).base j f fd ps (spX K Pre Fn Ex) := by rw [fm.pr z, fm.wo z, fm.kk z, fm.mg z, fm.ba z]; exact G
    exact pe_callXK GG (tk z) (fm.gu z) ((fm.ro z).mono hj) (gl_of (fm.es z) hg) (by rw [fm.mg z]; exact hm) (by rw [fm.kk z]; exact hk) (by rw [fm.kk z]; exact hb) (wk_pk z) hdb (hall z) (hks z) (hpl z)
  · refine ha σ H i sd _ fun vs H1 x1 i1 d1 => ⟨d1.length.trans hl, W, ds', i1, hd H1 vs d1, hp, fun r v H' hr x2 dn => ?_, fun cls fs d H' he hi x2 => ?_⟩
    · have yy : Wx W H H' := x1.trans (x2.wx W)
      exact hn r hr _ H' D (W.mono _ _ i1 x2) (Sd.set dn.dv n (sd.mono yy)) (gd.mono yy) fun cls fs d σ' H2 env' a b c y2 => hw cls fs d σ' H2 env' a b c (yy.trans y2)
    · have yy : Wx W H H' := x1.trans (x2.wx W)
      exact hw cls fs d σ H' env (hx cls fs he).1 (hx cls fs he).2 hi yy (W.mono _ _ i1 x2) (sd.mono yy)
end
end Cr

set_option Elab.async false
set_option linter.all false
set_option maxRecDepth 100000
set_option maxHeartbeats 400000
namespace Cr
open PySem PySem.Spec PyProof.Rows L2
def rEqNil (K : PySem.W.Frag) : R2 := fun x y H Q => ∃ p xs q, x = .ref p ∧ y = .ref q ∧ SqL K H p xs ∧ SqL K H q [] ∧ Q (.bl xs.isEmpty) H
theorem op_eqNil {X : Cx} (hu : X.A.units + 64 < cLine) : OpR X (compareOp .Eq) (rEqNil X.K) := by
  intro pins s σ H x y v u Q I rx ry h
  obtain ⟨p, xs, q, ex, ey, hp, hq, h⟩ := h
  subst ex ey
  cases rx
  cases ry
  obtain ⟨its, rv, p1, _⟩ := I.list hp
  obtain ⟨its2, rv2, p2, _⟩ := I.list hq
  have hu' : X.A.units < cLine := by omega
  cases rv2
  cases rv with
  | nil => exact SeqAt.RcAt.lists (e := fun _ => true) p1.isList p2.isList rfl hu' (fun j h1 _ => absurd h1 (Nat.not_lt_zero _)) _ _ _ _ ⟨.bl _, H, I, rfl, h⟩
  | cons r rr => exact SeqAt.eq_list_lengthsAt p1.isList p2.isList (by simp) hu' ⟨.bl _, H, I, rfl, h⟩
section
variable {ι : Type} {F : ι → Cx} {P : Program} {w : World} {K : PySem.W.Frag} {mg : Str → Option Value} {base : Heap} {N : List Str} {k : Nat} {sc : Scope} {W : Wd} {env : List Sl} {wi : L2.WX} {EX : Value → XD → Prop} {XE : List Sl → Prop}
/-- l == [], whatever stands in l -/
theorem b_eqNil (fm : Fam P w K mg base N k sc F) {ds : List PyData} : B1 F W K (compareOp .Eq) (.list ds) (.list []) (.bool ds.isEmpty) := by
  intro H vx vy ii dx dy Q q
  cases dx with
  | @lst pa xs _ la da =>
    cases dy with
    | @lst pb ys _ lb db =>
      cases db
      refine ⟨rEqNil K, fun z => by have := op_eqNil (X := F z) (fm.ro z).units; rwa [fm.kk z] at this, pa, xs, pb, rfl, rfl, la.sq, lb.sq, ?_⟩
      have e : xs.isEmpty = ds.isEmpty := by cases da <;> rfl
      rw [e]
      exact q _ H _ (Wx.refl W H) ii (Dn.dv (.bl _)) rfl
theorem bde_set (fm : Fam P w K mg base N k sc F) {x : Str} {e : Expr} {pos' pos : Pos} {rest : List Stmt} {R : Sl → Prop} {Po : Post} (j : Nat) (hN : N[j]? = some x) (he : Ev F W K e env R) (hr : ∀ r, R r → BdE F W K wi EX XE rest (env.set j r) Po)
    (hx : locB sc x = true := by decide +kernel) (hs : ∀ i, swapsWith e (some (.Name x pos')) pos.line (F i).env = pure false := by intro _; rfl)
    (hf : ∀ i, (F i).fn x = true ∨ (F i).env.scope.names.lookup x = some .local := by intro _; first | exact Or.inl rfl | exact Or.inr rfl) : BdE F W K wi EX XE (.Assign [.Name x pos'] e pos :: rest) env Po := by
  intro σ H D i sd g hw
  refine ⟨tSeq (tAsg (WE F e) (gName j)) (WS F rest), fun z => pss_cons (ps_set (by rw [fm.nn z]; exact fm.nd) (by rw [fm.nn z]; exact hN) (loc_of (fm.es z) hx) (we_pe z) (hs z) (hf z)) (ws_ps z), ?_⟩
  refine he σ H i sd _ fun v H1 r x1 i1 d1 h1 => ?_
  exact hr r h1 _ _ _ i1 (Sd.set d1 j (sd.mono x1)) (g.mono x1) fun cls fs d σ' H2 env' a b c y => hw cls fs d σ' H2 env' a b c (x1.trans y)
end
end Cr

set_option Elab.async false
set_option linter.all false
set_option maxRecDepth 100000
set_option maxHeartbeats 400000
namespace Cr
open PySem PySem.Spec PyProof.Rows L2
section
variable {ι : Type} {F : ι → Cx} {P : Program} {w : World} {K : PySem.W.Frag} {mg : Str → Option Value} {base : Heap} {N : List Str} {k : Nat} {sc : Scope} {W : Wd} {env : List Sl}
/-! ## comprehensions over zip(a, b), two lists or two tuples -/
theorem lc_turnsZ {J : It} {G : Hp → Prop} {elt : Expr} {ifs : List Expr} {scope : Scope} {j j2 n : Nat} {ds ds2 : List PyData} {xs ys : List V} {D : Addr} {H1 : Hp} {σ : L2.St} {f : Nat → Bool} {R : Nat → PyData → Prop} {Q : VK} (i1 : W.I H1) (sd : Sd W K H1 σ env) (da : DnAll W K H1 xs ds) (db : DnAll W K H1 ys ds2) (hD : H1 D = none) (hz : n ≤ sizeLine)
    (wk : Walk J n G (YPair (fun i => xs[i]?) (fun i => ys[i]?))) (keep : ∀ H', Wx W H1 H' → G H')
    (hj : j ≠ j2) (ht : ∀ (i : Nat) (a b : PyData) D acc, ds[i]? = some a → ds2[i]? = some b → ¬ W.M D → EvIf (FB F scope) (W.plus D (.lst acc)) K ifs (((wipeE env [j, j2]).set j (.dat a)).set j2 (.dat b)) (f i))
    (he : ∀ (i : Nat) (a b : PyData) D acc, ds[i]? = some a → ds2[i]? = some b → f i = true → ¬ W.M D → Ev (FB F scope) (W.plus D (.lst acc)) K elt (((wipeE env [j, j2]).set j (.dat a)).set j2 (.dat b)) fun s => ∃ e, s = .dat e ∧ R i e)
    (q : ∀ H' es, Wx W H1 H' → W.I H' → Dn W K H' (.ref D) (.list es) → Paired (fun i e => R i e) ((List.range n).filter f) es → Q (.ref D) H') :
    ∃ Wl : Nat → Nat → Hp → Prop, (∃ m, Wl 0 m (upd H1 D (.lst []))) ∧ ∀ i m H, Wl i m H →
      (J.stop i H ∧ Q (.ref D) H) ∨ (J.go i H ∧ ∃ Nx : Hp → Prop, (∀ H', Nx H' → ∃ m', m' < m ∧ Wl (i + 1) m' H') ∧ ∀ x H', J.yld i H x H' → gTup K 2 (gCons (gName j) (gCons (gName j2) gNil)) x (L2.wipe σ [j, j2]) H' fun σ2 H2 => L2.wipe σ2 [j, j2] = L2.wipe σ [j, j2] ∧ WTs (FB F scope) ifs σ2 H2 fun b H3 =>
        if b = true then WE (FB F scope) elt σ2 H3 fun y H4 => ∃ acc, H4 D = some (.lst acc) ∧ acc.length < sizeLine ∧ Nx (upd H4 D (.lst (acc ++ [y]))) else Nx H3) := by
  have nD : ¬ W.M D := fun m => W.has H1 D i1 m hD
  refine lc_it wk (fun i H' => ∃ acc es, (W.plus D (.lst acc)).I H' ∧ Wx (W.plus D (.lst acc)) H1 H' ∧ DnAll (W.plus D (.lst acc)) K H' acc es ∧ Paired (fun i e => R i e) ((List.range i).filter f) es) ?_ ?_ ?_ ?_
  · exact ⟨[], [], ⟨W.mono _ _ i1 (Xt.new hD), upd_same⟩, fun p o _ h => Xt.new hD p o h, .nil, .nil⟩
  · intro i H' _ ⟨acc, es, _, x, _⟩
    exact keep H' fun p o n h => x p o (fun m => m.elim n fun e => ne_of_none h hD e) h
  · rintro i x H0 H' il ⟨acc, es, ii0, xx0, dn0, pr⟩ ⟨T, ua, ub, rfl, hT, rfl, hx, hy⟩
    obtain ⟨d1, hd1, dx1⟩ := da.getV hx
    obtain ⟨d2, hd2, dx2⟩ := db.getV hy
    have to1 : ∀ b, H1 b ≠ none → (W.plus D (.lst acc)).M b → W.M b := plus_of hD
    obtain ⟨xT, ii, dT⟩ := new_tup (W := W.plus D (.lst acc)) (K := K) (vs := [ua, ub]) (ds := [d1, d2]) ii0 hT (.cons ((dx1.to to1).mono xx0) (.cons ((dx2.to to1).mono xx0) .nil))
    have xx := fun p o n h => xT p o n (xx0 p o n h)
    have dn := dn0.mono xT
    obtain ⟨pa, ua, ub, eT, sq2, dna, dnb⟩ := dn_tup2 dT
    cases eT
    · · refine ⟨_, [ua, ub], rfl, sq2, rfl, ua, [ub], rfl, ub, [], rfl, rfl, ?_⟩
        have sd' : Sd (W.plus D (.lst acc)) K _ (((L2.wipe σ [j, j2]).set j (some ua)).set j2 (some ub)) (((wipeE env [j, j2]).set j (.dat d1)).set j2 (.dat d2)) :=
          Sd.set dnb.dv j2 (Sd.set dna.dv j (((sd.to to1).wipe [j, j2]).mono xx))
        refine ⟨wipe_set2 hj, ?_⟩
        refine ht i d1 d2 D acc hd1 hd2 nD _ _ ii sd' _ fun H3 x3 i3 => ?_
        have lt : acc.length ≤ i := by
          have l1 := dn.length
          have l2 := Paired.length pr
          have l3 := List.length_filter_le f (List.range i)
          rw [List.length_range] at l3
          omega
        cases hf : f i with
        | true =>
          refine he i d1 d2 D acc hd1 hd2 hf nD _ H3 i3 (sd'.mono x3) _ fun y H4 r x4 i4 d4 h4 => ?_
          obtain ⟨e, rfl, hR⟩ := h4
          obtain ⟨u, z, dy⟩ := d4
          cases z
          have up : Wx (W.plus D (.lst acc)) H4 (upd H4 D (.lst (acc ++ [y]))) := fun p o n h => by
            rw [upd_ne fun z => n (Or.inr z)]
            exact h
          refine ⟨acc, i4.2, by omega, acc ++ [y], es ++ [e], ⟨W.loc _ _ i4.1 fun b m => upd_ne fun z => nD (z ▸ m), upd_same⟩, ?_, ?_, ?_⟩
          · intro p o n h
            exact up p o n (x4 p o n (x3 p o n (xx p o n h)))
          · refine DnAll.to (W := W.plus D (.lst acc)) (W' := W.plus D (.lst (acc ++ [y]))) (fun _ _ m => m) (DnAll.mono up ?_)
            exact ((dn.mono x3).mono x4).append (.cons dy .nil)
          · rw [List.range_succ, List.filter_append, List.filter_cons, if_pos hf]
            exact paired_app pr (.cons hR .nil)
        | false =>
          refine ⟨acc, es, i3, fun p o n h => x3 p o n (xx p o n h), dn.mono x3, ?_⟩
          rw [List.range_succ, List.filter_append, List.filter_cons, if_neg (by rw [hf]; exact Bool.false_ne_true)]
          show Paired _ (_ ++ []) es
          rw [List.append_nil]
          exact pr
  · intro H' ⟨acc, es, ii, xx, dn, pr⟩
    refine q H' es (fun p o n h => xx p o (fun m => m.elim n fun z => ?_) h) ii.1 ?_ pr
    · rw [z, hD] at h
      exact nomatch h
    · exact .lst ⟨nD, ii.2⟩ (DnAll.to (W := W.plus D (.lst acc)) (W' := W) (fun _ _ m => Or.inl m) dn)
theorem walk_zipT {a b : Addr} {xs ys : List V} {n : Nat} (hn : n = min xs.length ys.length) : Walk (RZ.ItzT K a b) n (fun H => SqT K H a xs ∧ SqT K H b ys) (YPair (fun i => xs[i]?) (fun i => ys[i]?)) := by
  subst hn
  refine ⟨fun i _ hi q => ?_, fun _ q => ⟨xs, ys, q.1, q.2, by omega⟩, fun i H v H' _ q y => ?_⟩
  · have h1 : i < xs.length := by omega
    have h2 : i < ys.length := by omega
    exact ⟨xs, ys, xs[i], ys[i], q.1, q.2, by simp [h1], by simp [h2]⟩
  · obtain ⟨T, x, z, h1, h2, h3, h4, h5⟩ := y
    exact ⟨T, x, z, h1, h2, h3, h4 xs q.1, h5 ys q.2⟩
/-- [elt for x, y in zip(a, b) if ..] -/
theorem ev_lcZ (fm : Fam P w K mg base N k sc F) {x y : Str} {px py tpos pos p cpos : Pos} {kk : Nat} {elt e1 e2 : Expr} {ifs : List Expr} {scope : Scope} {ds ds2 : List PyData} {u v : PyData} {f : Nat → Bool} {R : Nat → PyData → Prop} (j j2 : Nat) (hN : N[j]? = some x) (hN2 : N[j2]? = some y) (o : lcB2 N sc scope x y j j2 = true) (ha : A1 F W K [e1, e2] env [u, v])
    (huv : (u = .list ds ∧ v = .list ds2) ∨ (u = .tuple ds ∧ v = .tuple ds2)) (mz : mg "zip" = none) (hj : j ≠ j2)
    (ht : ∀ (i : Nat) (a b : PyData) D acc, ds[i]? = some a → ds2[i]? = some b → ¬ W.M D → Fam P w K mg base N k (relS scope sc) (FB F scope) → EvIf (FB F scope) (W.plus D (.lst acc)) K ifs (((wipeE env [j, j2]).set j (.dat a)).set j2 (.dat b)) (f i))
    (he : ∀ (i : Nat) (a b : PyData) D acc, ds[i]? = some a → ds2[i]? = some b → f i = true → ¬ W.M D → Fam P w K mg base N k (relS scope sc) (FB F scope) → Ev (FB F scope) (W.plus D (.lst acc)) K elt (((wipeE env [j, j2]).set j (.dat a)).set j2 (.dat b)) fun s => ∃ e, s = .dat e ∧ R i e)
    (hz : min ds.length ds2.length ≤ sizeLine) (gz : glB sc "zip" = true := by decide +kernel) (hs : ∀ i, starEach [e1, e2] (F i).env = (false, eval e1 (F i).env) :: starEach [e2] (F i).env := by intro _; rfl) (hpl : ∀ i, (backTo cpos (starEach [e2] (F i).env)).any (·.1) = false := by intro _; rfl)
    (hf : ∀ i x, foldedSetIterable (.Call (.Name "zip" p) [e1, e2] [] cpos) (F i).env x = pure x := by intro _ _; rfl) :
    Ev F W K (.ListComp elt [⟨.Tuple [.Name x px, .Name y py] kk tpos, .Call (.Name "zip" p) [e1, e2] [] cpos, ifs, 0⟩] scope pos) env fun s => ∃ es, s = .dat (.list es) ∧ Paired (fun i e => R i e) ((List.range (min ds.length ds2.length)).filter f) es := by
  intro σ H ii sd Q q
  refine ⟨tLc (RZ.iZipA K (WA F [e1, e2])) (gTup K 2 (gCons (gName j) (gCons (gName j2) gNil))) (WTs (FB F scope) ifs) (WE (FB F scope) elt) [j, j2], fun z => ?_, ?_⟩
  · have h1 := RZ.pi_zipA (X := F z) (elts := [.Name x px, .Name y py]) (kk := kk) (tpos := tpos) (p := p) (pos := cpos) (gl_of (fm.es z) gz) (by rw [fm.mg z]; exact mz) (wa_pa (F := F) (es := [e1, e2]) z) (hs z) (hpl z)
    rw [fm.kk z] at h1
    exact pe_lc (own := [(x, j), (y, j2)]) (fm.ca z) (by rw [fm.nn z]; exact fm.nd) h1 (lc_ok2 fm o z) (fun s H C cl fp => lc_gPair fm o hN hN2 z s H C cl fp) (fun s H C cl fp => wts_pts (F := FB F scope) (z, s, H, C, cl, fp)) (fun s H C cl fp => we_pe (F := FB F scope) (z, s, H, C, cl, fp)) (hf z)
  · refine ha σ H ii sd _ fun vs H1 rs x1 i1 d1 h1 => ?_
    subst h1
    have dn := dn_of_sd d1
    cases dn with
    | cons a t =>
      cases t with
      | cons b t =>
        cases t
        rcases huv with ⟨rfl, rfl⟩ | ⟨rfl, rfl⟩
        · cases a with
          | @lst pa xs _ la da =>
            cases b with
            | @lst pb ys _ lb db =>
              refine ⟨pa, pb, xs, ys, rfl, Or.inl ⟨la.sq, lb.sq, fun D hD => ?_⟩⟩
              exact lc_turnsZ i1 (sd.mono x1) da db hD hz (walk_zip (by rw [da.length, db.length])) (fun H' y => ⟨(la.mono y).sq, (lb.mono y).sq⟩) hj (fun i a b D acc h1 h2 nD => ht i a b D acc h1 h2 nD (fm.blk scope (lc_kind2 o))) (fun i a b D acc h1 h2 h3 nD => he i a b D acc h1 h2 h3 nD (fm.blk scope (lc_kind2 o))) fun H' es x' i' dn pr => q _ _ _ (x1.trans x') i' dn.dv ⟨es, rfl, pr⟩
        · cases a with
          | @tup pa xs _ la da =>
            cases b with
            | @tup pb ys _ lb db =>
              refine ⟨pa, pb, xs, ys, rfl, Or.inr ⟨la.sq, lb.sq, fun D hD => ?_⟩⟩
              exact lc_turnsZ i1 (sd.mono x1) da db hD hz (walk_zipT (by rw [da.length, db.length])) (fun H' y => ⟨(TA'.mono y la).sq, (TA'.mono y lb).sq⟩) hj (fun i a b D acc h1 h2 nD => ht i a b D acc h1 h2 nD (fm.blk scope (lc_kind2 o))) (fun i a b D acc h1 h2 h3 nD => he i a b D acc h1 h2 h3 nD (fm.blk scope (lc_kind2 o))) fun H' es x' i' dn pr => q _ _ _ (x1.trans x') i' dn.dv ⟨es, rfl, pr⟩

/-! ## all(l) -/
theorem dn_bools {H : Hp} : ∀ {bs : List Bool} {vs : List V}, DnAll W K H vs (bs.map .bool) → vs = bs.map V.bl
  | [], _, h => by cases h; rfl
  | b :: bs, _, h => by
    cases h with
    | cons a t =>
      cases a
      rw [dn_bools t]
      rfl
theorem c_all (fm : Fam P w K mg base N k sc F) {bs : List Bool} : C1 F W K (.builtin "all") [.list (bs.map .bool)] (.bool (bs.all id)) := by
  intro H vs ii dn Q q
  cases dn with
  | cons a t =>
    cases t
    cases a with
    | lst a r =>
      have e := dn_bools r
      subst e
      exact ⟨rAll K, fun z => by have := cr_all (X := F z) (fm.ca z); rwa [fm.kk z] at this, _, bs, rfl, a.sq, q _ H _ (Wx.refl W H) ii (Dn.dv (.bl _)) rfl⟩
theorem e_all (fm : Fam P w K mg base N k sc F) {e : Expr} {p pos : Pos} {bs : List Bool} (ha : E1 F W K e env (.dat (.list (bs.map .bool)))) (hm : mg "all" = none) (hg : glB sc "all" = true := by decide +kernel)
    (st : ∀ i, starEach (e :: []) (F i).env = (false, eval e (F i).env) :: starEach [] (F i).env := by intro _; rfl) : E1 F W K (.Call (.Name "all" p) [e] [] pos) env (.dat (.bool (bs.all id))) :=
  ev_callB fm (a_cons ha a_nil (st := st)) hm (c_all fm) (hg := hg) (st := st)
/-- a comprehension without a condition tells just this -/
theorem paired_all {g : Nat → PyData} {n : Nat} {es : List PyData} (h : Paired (fun i e => e = g i) ((List.range n).filter fun _ => true) es) : es = (List.range n).map g := by
  have e : (List.range n).filter (fun _ => true) = List.range n := List.filter_eq_self.mpr fun _ _ => rfl
  rw [e] at h
  generalize List.range n = l at h
  induction h with
  | nil => rfl
  | cons r t ih => rw [r, ih]; rfl

/-! ## isinstance(x, (T, U)) -/
def isa2 (T U : String) (d : PyData) : Bool := isaD T d || isaD U d
theorem kit_two {T U : String} (hT : KitT T) (hU : KitT U) (d : PyData) : PySem.W.kitAny K (.type (tyD d)) [.type T, .type U] = some (isa2 T U d) := by
  unfold PySem.W.kitAny isa2
  rw [hT.of d]
  cases isaD T d
  · show PySem.W.kitAny K (.type (tyD d)) [.type U] = _
    unfold PySem.W.kitAny
    rw [hU.of d]
    cases isaD U d <;> rfl
  · rfl
theorem ev_isi2 (fm : Fam P w K mg base N k sc F) {e : Expr} {p p2 p3 p4 pos : Pos} {kk : Nat} {x y : Str} {T U : String} {d : PyData} (he : E1 F W K e env (.dat d)) (hm : mg "isinstance" = none) (hmT : mg x = none) (hmU : mg y = none) (hT : KitT T) (hU : KitT U) (hv : bootBuiltins x = some (.type T) := by decide +kernel) (hv2 : bootBuiltins y = some (.type U) := by decide +kernel)
    (hg : glB sc "isinstance" = true := by decide +kernel) (hgT : glB sc x = true := by decide +kernel) (hgU : glB sc y = true := by decide +kernel) (hn : x ≠ "__name__" := by decide) (hdb : (x == ("__debug__" : Str)) = false := by decide) (hn2 : y ≠ "__name__" := by decide) (hdb2 : (y == ("__debug__" : Str)) = false := by decide)
    (st : ∀ i, starEach (e :: [.Tuple [.Name x p2, .Name y p3] kk p4]) (F i).env = (false, eval e (F i).env) :: starEach [.Tuple [.Name x p2, .Name y p3] kk p4] (F i).env := by intro _; rfl) (pl : ∀ i, (backTo pos (starEach [.Tuple [.Name x p2, .Name y p3] kk p4] (F i).env)).any (·.1) = false := by intro _; rfl) :
    E1 F W K (.Call (.Name "isinstance" p) [e, .Tuple [.Name x p2, .Name y p3] kk p4] [] pos) env (.dat (.bool (isa2 T U d))) := by
  intro σ H i sd Q q
  refine ⟨tCB (WC F (.builtin "isinstance")) (tCons (WE F e) (tCons (tTup (tCons (tC (.ty T)) (tCons (tC (.ty U)) tNil))) tNil)), fun z => pe_callB (wc_call z) (gl_of (fm.es z) hg) (by rw [fm.mg z]; exact hm) (by decide +kernel) (pa_cons (we_pe z) (pa_cons (pe_tup (pa_cons (pe_bltn (gl_of (fm.es z) hgT) (by rw [fm.mg z]; exact hmT) hv rfl hn hdb) (pa_cons (pe_bltn (gl_of (fm.es z) hgU) (by rw [fm.mg z]; exact hmU) hv2 rfl hn2 hdb2) pa_nil (by rfl)) (by rfl))) pa_nil (by rfl)) (st z)) (by decide) (by decide) (st z) (pl z), ?_⟩
  refine he σ H i sd _ fun v H1 r x1 i1 d1 h1 => ?_
  subst h1
  obtain ⟨u, z, n1⟩ := d1
  cases z
  refine ⟨by show 2 ≤ sizeLine; decide, fun tp htp => ?_⟩
  obtain ⟨np, xp, ip⟩ := W.new (o := .tup [.ty T, .ty U]) i1 htp
  have xw : Wx W H1 (upd H1 tp (.tup [.ty T, .ty U])) := xp
  exact ⟨rIsiT K, fun z => by have := call_isiT (X := F z); rwa [fm.kk z] at this, _, tp, [.ty T, .ty U], .type (tyD d), [.type T, .type U], _, rfl, upd_same, .cons (.ty T) (.cons (.ty U) .nil), tyx_of (n1.mono xw), kit_two hT hU d, q _ _ _ (x1.trans xw) ip (Dn.dv (.bl _)) rfl⟩
end
end Cr

set_option Elab.async false
set_option linter.all false
set_option maxRecDepth 100000
set_option maxHeartbeats 400000
namespace Cr
open PySem PySem.Spec PyProof.Rows L2
section
variable {ι : Type} {F : ι → Cx} {P : Program} {w : World} {K : PySem.W.Frag} {mg : Str → Option Value} {base : Heap} {N : List Str} {k : Nat} {sc : Scope} {W : Wd} {env : List Sl}
/-- {i: j}, two written ints -/
theorem ev_dctI (fm : Fam P w K mg base N k sc F) {i j : Int} {k1 k2 : Nat} {p1 p2 pos : Pos} : E1 F W K (.Dict [some (.Constant (.int i) k1 p1)] [.Constant (.int j) k2 p2] pos) env (.dat (.dict [(.int i, .int j)])) := by
  intro σ H ii sd Q q
  refine ⟨tDisp [(tC (.int i), tC (.int j))], fun z => pe_disp (pps_cons pe_int pe_int pps_nil) rfl rfl (by simp) (by show 1 ≤ 15; decide), fun p hp => ?_⟩
  refine ⟨upd_same, [(.inl i, .int j)], rfl, by show 1 ≤ 15; decide, ?_⟩
  obtain ⟨np, xp, ip⟩ := W.new (o := .dK (mergeK [] [(.inl i, .int j)])) ii hp
  have e : upd (upd H p (.dK [])) p (.dK (mergeK [] [(.inl i, .int j)])) = upd H p (.dK (mergeK [] [(.inl i, .int j)])) := by
    funext x
    by_cases h : x = p
    · subst h; rw [upd_same, upd_same]
    · rw [upd_ne h, upd_ne h, upd_ne h]
  rw [e]
  exact q _ _ _ xp ip (Dn.dv (.dct np upd_same (.cons (k := .inl i) (.int j) .nil))) rfl
end
theorem at_dict1 : At (.dict [(.int 0, .int 1)]) := ⟨rfl, ⟨by simp only [PyData.showable, PyData.showableKv]; decide, by simp only [PyData.shown, PyData.shownKv]; decide +kernel⟩, by simp [PyData.depth, PyData.depthKv], fun _ e => nomatch e⟩
end Cr

set_option Elab.async false
set_option linter.all false
set_option maxRecDepth 100000
set_option maxHeartbeats 1000000
namespace K36
open PySem PySem.Spec PyProof.Rows L2 Cr
def topS (i : Nat) : Stmt := PySem.Challenge.pw_cutrelays_k36_senders_refused.main.body.getD i (.Pass ⟨0, 0, 0, 0⟩)
abbrev sIsInt : Stmt := topS 6
abbrev sIsCount : Stmt := topS 7
abbrev sWholeSnd : Stmt := topS 11
abbrev sChkB : Stmt := topS 15
abbrev sAreB : Stmt := topS 16
abbrev sIsSdr : Stmt := topS 22
abbrev sChkS : Stmt := topS 23
abbrev sSent : Stmt := topS 24
abbrev sCan : Stmt := topS 25
abbrev sStarts : Stmt := topS 26
abbrev sKnead : Stmt := topS 28
abbrev sPotOf : Stmt := topS 29
abbrev sBelow : Stmt := topS 30
abbrev sPick : Stmt := topS 31
abbrev sWord : Stmt := topS 32
abbrev sLaw : Stmt := topS 33
local macro_rules | `(tactic| walk_at "ev") => `(tactic| first
  | exact ev_int
  | exact ev_str
  | exact ev_non
  | exact ev_bl
  | (walk_at "var")
  | (refine' ev_op ?a ?b ?c; (case a => walk_at "ev"); (case b => walk_at "ev"); (case c => walk_at "bin"))
  | (refine' ev_cmp ?a ?b ?c; (case a => walk_at "ev"); (case b => walk_at "ev"); (case c => walk_at "cmp"))
  | (refine' ev_tup ?a; (case a => walk_at "args"))
  | (refine' ev_lst ?a; (case a => walk_at "args"))
  | (refine' e_int (by assumption) ?a (by assumption); (case a => walk_at "args"))
  | (refine' e_abs (by assumption) ?a (by assumption); (case a => walk_at "args"))
  | (refine' e_max (by assumption) ?a (by assumption); (case a => walk_at "args"))
  | (refine' e_min (by assumption) ?a (by assumption); (case a => walk_at "args"))
  | (refine' e_lenL (by assumption) ?a (by assumption); (case a => walk_at "args"))
  | (refine' e_lenT (by assumption) ?a (by assumption); (case a => walk_at "args"))
  | (refine' e_intB (by assumption) ?a (by assumption); (case a => walk_at "args"))
  | (refine' ev_pure (by assumption) (by assumption) (by decide) ?a ?g; (case a => walk_at "args"); (case g => walk_at "gr"))
  | (refine' ev_ix ?a ?b ?c; (case a => walk_at "ev"); (case b => walk_at "ev"); (case c => walk_at "idx"))
  | (refine' ev_cutL (by assumption) ?a ?b ?c; (case a => walk_at "ev"); (case b => walk_at "eo"); (case c => walk_at "eo"))
  | (refine' ev_cutT (by assumption) ?a ?b ?c; (case a => walk_at "ev"); (case b => walk_at "eo"); (case c => walk_at "eo"))
  | (refine' ev_not ?a; (case a => walk_at "ev"))
  | (refine' ev_neg ?a; (case a => walk_at "ev")))
local macro_rules | `(tactic| walk_at "var") => `(tactic| first
  | exact ev_var (by assumption) 0 rfl rfl
  | exact ev_var (by assumption) 1 rfl rfl
  | exact ev_var (by assumption) 2 rfl rfl
  | exact ev_var (by assumption) 3 rfl rfl
  | exact ev_var (by assumption) 4 rfl rfl
  | exact ev_var (by assumption) 5 rfl rfl
  | exact ev_var (by assumption) 6 rfl rfl
  | exact ev_var (by assumption) 7 rfl rfl
  | exact ev_var (by assumption) 8 rfl rfl
  | exact ev_var (by assumption) 9 rfl rfl
  | exact ev_var (by assumption) 10 rfl rfl
  | exact ev_var (by assumption) 11 rfl rfl
  | exact ev_raw (by assumption) 0 rfl rfl
  | exact ev_raw (by assumption) 1 rfl rfl
  | exact ev_raw (by assumption) 2 rfl rfl)
local macro_rules | `(tactic| walk_at "args") => `(tactic| first
  | exact a_nil
  | (refine' a_cons ?h ?t; (case h => walk_at "ev"); (case t => walk_at "args"))
  | (refine' r_cons ?h ?t; (case h => walk_at "ev"); (case t => walk_at "args")))
local macro_rules | `(tactic| walk_at "et") => `(tactic| first
  | (refine' et_cmp ?a ?b ?c; (case a => walk_at "ev"); (case b => walk_at "ev"); (case c => walk_at "cmp"))
  | (refine' et_not ?a; (case a => walk_at "et"))
  | (refine' et_val ?a; (case a => walk_at "ev")))
local macro_rules | `(tactic| walk_at "eo") => `(tactic| first
  | exact eo_none
  | (refine' eo_some ?a; (case a => walk_at "ev")))
local macro_rules | `(tactic| walk_at "bin") => `(tactic| first
  | with_reducible exact b_add
  | with_reducible exact b_sub
  | ((with_reducible refine b_mul ?_); first | exact Or.inr ⟨by decide, by decide⟩ | exact Or.inl ⟨by decide, by decide⟩ | exact Or.inl ⟨by omega, by omega⟩)
  | ((with_reducible refine b_mod ?_); first | decide | omega)
  | ((with_reducible refine b_div ?_); assumption)
  | ((with_reducible refine b_pow ?_); exact ⟨by decide, by decide, by decide⟩)
  | ((with_reducible refine b_cat ?_); exact sz_small (by simp only [List.length_cons, List.length_nil, List.length_append]; omega))
  | ((with_reducible refine b_catT (by assumption) ?_); exact sz_small (by simp only [List.length_cons, List.length_nil, List.length_append]; omega)))
local macro_rules | `(tactic| walk_at "cmp") => `(tactic| first
  | with_reducible exact b_lt
  | with_reducible exact b_le
  | with_reducible exact b_gt
  | with_reducible exact b_ge
  | with_reducible exact b_eqI
  | with_reducible exact b_eqS
  | with_reducible exact b_neI
  | with_reducible exact b_neS
  | with_reducible exact b_isN
  | with_reducible exact b_notN
  | ((with_reducible refine n_eq (by assumption) ?_ ?_) <;> (walk_at "nice"))
  | ((with_reducible refine n_ne (by assumption) ?_ ?_) <;> (walk_at "nice")))
local macro_rules | `(tactic| walk_at "nice") => `(tactic| first
  | exact Nice.int
  | exact Nice.none
  | exact Nice.bool
  | exact Nice.str (by decide +kernel)
  | assumption
  | (refine Nice.tuple ?_; walk_at "nice")
  | (refine Nice.list ?_; walk_at "nice")
  | exact NiceAll.nil
  | (refine NiceAll.cons ?_ ?_ <;> (walk_at "nice")))
local macro_rules | `(tactic| walk_at "idx") => `(tactic| first
  | exact i_list (by assumption) rfl
  | exact i_tup (by assumption) rfl)
local macro_rules | `(tactic| walk_at "gr") => `(tactic| first
  | exact ⟨_, rfl, rfl⟩
  | exact ⟨_, rfl, rfl, by assumption⟩)
local macro_rules | `(tactic| walk_at "tgs") => `(tactic| first
  | exact tgs_nil
  | (refine' tgs_cons ?h ?t; (case h => walk_at "tg"); (case t => walk_at "tgs")))
local macro_rules | `(tactic| walk_at "tg") => `(tactic| first
  | exact tg_name (by assumption) 0 rfl
  | exact tg_name (by assumption) 1 rfl
  | exact tg_name (by assumption) 2 rfl
  | exact tg_name (by assumption) 3 rfl
  | exact tg_name (by assumption) 4 rfl
  | exact tg_name (by assumption) 5 rfl
  | exact tg_name (by assumption) 6 rfl
  | exact tg_name (by assumption) 7 rfl
  | exact tg_name (by assumption) 8 rfl
  | exact tg_name (by assumption) 9 rfl)
local macro_rules | `(tactic| walk_at "fls") => `(tactic| first
  | exact ne_self
  | exact eqv_ne (n := 20) (by walk_at "nice") rfl)
inductive Way | length | marks | close
  deriving DecidableEq
def Way.s : Way → Str
  | .length => "length"
  | .marks => "marks"
  | .close => "close"
inductive En | mark | op | shut
  deriving DecidableEq
def En.s : En → Str
  | .mark => "mark"
  | .op => "open"
  | .shut => "shut"
structure Snd where
  meant : Int
  way : Way
  told : Int
  units : Int
  en : En
def Snd.toldD (s : Snd) : PyData := match s.way with
  | .length => .int s.told
  | _ => .none
def Snd.d (s : Snd) : PyData := .tuple [.int s.meant, .str s.way.s, s.toldD, .int s.units, .str s.en.s]
structure Snd.ok (s : Snd) : Prop where
  m : 0 ≤ s.meant ∧ s.meant ≤ 1000000000000
  u : 0 ≤ s.units ∧ s.units ≤ 1000000000000
  t : s.way = .length → s.units ≤ s.told ∧ s.told ≤ 1000000000000
  e : s.en = .mark → s.way = .marks
theorem way_len (w : Way) : decide (w.s = "length") = decide (w = .length) := by cases w <;> decide
theorem way_mar (w : Way) : decide (w.s = "marks") = decide (w = .marks) := by cases w <;> decide
theorem way_clo (w : Way) : decide (w.s = "close") = decide (w = .close) := by cases w <;> decide
theorem en_mark (e : En) : decide (e.s = "mark") = decide (e = .mark) := by cases e <;> decide
theorem en_open (e : En) : decide (e.s = "open") = decide (e = .op) := by cases e <;> decide
theorem en_shut (e : En) : decide (e.s = "shut") = decide (e = .shut) := by cases e <;> decide
theorem way_nice (w : Way) {n : Nat} : Nice (.str w.s) n := Nice.str (by cases w <;> decide +kernel)
theorem en_nice (e : En) {n : Nat} : Nice (.str e.s) n := Nice.str (by cases e <;> decide +kernel)
theorem told_nice (s : Snd) {n : Nat} : Nice s.toldD n := by
  unfold Snd.toldD
  cases s.way
  · exact Nice.int
  · exact Nice.none
  · exact Nice.none
theorem snd_nice (s : Snd) {n : Nat} : Nice s.d (n + 1) := Nice.tuple (.cons Nice.int (.cons (way_nice _) (.cons (told_nice s) (.cons Nice.int (.cons (en_nice _) .nil)))))
def PreII (ds : List PyData) : Prop := ∃ a b : Int, ds = [.int a, .int b]
def RnI (_ : List PyData) (r : PyData) : Prop := ∃ n : Int, r = .int n
-- seed lap prime amount again
theorem scKnead : FnScope ["seed", "lap", "prime", "amount", "again"] ["seed", "lap"] (defScope sKnead) := ⟨rfl, rfl, rfl, by decide +kernel, rfl, by decide +kernel, by decide +kernel⟩
section
variable {P : Program} {w : World} {K : PySem.W.Frag} {mg : Str → Option Value} {base : Heap} {f : Addr} {fd : FuncData}
theorem ok_knead (Fu : Fun K "_law_kneaded" "_law_kneaded" sKnead f fd) (mInt : mg "int" = none) (mRange : mg "range" = none) : FnG P w K mg base 1 f fd ["seed", "lap"] (spN K RnI PreII) := by
  refine fn_some Fu scKnead (fun ds ⟨a, b, e⟩ => by rw [e]; rfl) ?_
  intro cdv A fr s H E W ds fm ⟨a, b, e⟩
  subst e
  refine' bd_set1 fm 2 rfl (r := .dat (.int 2305843009213693907)) ev_int ?_
  refine' bd_set1 fm 3 rfl (ev_op (e_int fm (a_cons (ev_op (ev_op (ev_op (ev_var fm 0 rfl rfl) ev_int (by walk_at "bin")) (ev_op (ev_var fm 1 rfl rfl) ev_int (by walk_at "bin")) (by walk_at "bin")) ev_int (by walk_at "bin")) a_nil) mInt) (ev_var fm 2 rfl rfl) (by walk_at "bin")) ?_
  refine' bd_forR fm (n := 4) (fun _ env => ∃ (n : Int) (r : Sl), 0 ≤ n ∧ n < 2305843009213693907 ∧ env = [.dat (.int a), .dat (.int b), .dat (.int 2305843009213693907), .dat (.int n), r]) (a_cons ev_int a_nil) (by decide) mRange ?h0 ?hs ?hd
  case h0 => exact ⟨_, _, Int.emod_nonneg _ (by decide), Int.emod_lt_of_pos _ (by decide), rfl⟩
  case hs =>
    intro i env hi ⟨n, r, h0, h1, e⟩
    subst e
    refine ⟨_, tg_name fm 4 rfl, ?_⟩
    refine' bd_set1 fm 3 rfl (ev_op (e_int fm (a_cons (ev_op (ev_op (ev_op (ev_op (ev_var fm 3 rfl rfl) (ev_var fm 3 rfl rfl) (by walk_at "bin")) (ev_op ev_int (ev_var fm 3 rfl rfl) (by walk_at "bin")) (by walk_at "bin")) (ev_op ev_int (ev_var fm 4 rfl rfl) (by walk_at "bin")) (by walk_at "bin")) (ev_var fm 1 rfl rfl) (by walk_at "bin")) a_nil) mInt) (ev_var fm 2 rfl rfl) (by walk_at "bin")) ?_
    refine bd_nil ?_
    exact ⟨_, _, Int.emod_nonneg _ (by decide), Int.emod_lt_of_pos _ (by decide), rfl⟩
  case hd =>
    intro env ⟨n, r, h0, h1, e⟩
    subst e
    refine' bd_ret1 (ev_op (ev_op (ev_var fm 3 rfl rfl) (ev_var fm 2 rfl rfl) (by walk_at "bin")) (ev_op (e_int fm (a_cons (ev_op (ev_op (ev_var fm 3 rfl rfl) ev_int (by walk_at "bin")) (ev_var fm 1 rfl rfl) (by walk_at "bin")) a_nil) mInt) (ev_var fm 2 rfl rfl) (by walk_at "bin")) (by walk_at "bin")) ?_
    exact ⟨_, rfl, _, rfl⟩
end
def PreB (ds : List PyData) : Prop := ∃ n : Int, ds = [.int n] ∧ 0 < n ∧ n < 2 ^ 200
def RnB (ds : List PyData) (r : PyData) : Prop := ∀ n : Int, ds = [.int n] → ∃ m : Int, r = .int m ∧ 0 ≤ m ∧ m < n
-- pot bound cells place amount found

theorem scBelow : FnScope ["pot", "bound", "cells", "place", "amount", "found"] ["pot", "bound"] (defScope sBelow) := ⟨rfl, rfl, rfl, by decide +kernel, rfl, by decide +kernel, by decide +kernel⟩
section
variable {P : Program} {w : World} {K : PySem.W.Frag} {mg : Str → Option Value} {base : Heap} {f : Addr} {fd : FuncData}
theorem ok_below (Fu : Fun K "_law_below" "_law_below" sBelow f fd) (oK : Own P w K mg base "_law_kneaded" 1 ["seed", "lap"] (spN K RnI PreII)) (mInt : mg "int" = none) (mLen : mg "len" = none) : FnG P w K mg base 2 f fd ["pot", "bound"] (spD K PreB RnB) := by
  refine fn_draw Fu scBelow (fun ds ⟨n, e, _⟩ => by rw [e]; rfl) ?_
  intro cdv A fr s H E W p c ns ds fm dw ⟨n, e, n0, n1⟩
  subst e
  have dv : CDivW n n := wide_div n0 (b := 200) (by omega) (by decide) (by decide)
  have dn : ∀ i : Int, CDivW i n := fun _ => dv
  refine' bd_ifJ (R := fun _ => True) (fun env => ∃ r2 r3 r4 r5, env = [.raw (.ref p), .dat (.int n), r2, r3, r4, r5]) (et_cmpN (ev_potI fm dw (Or.inr (Or.inr rfl)) (ev_raw fm 0 rfl rfl) ev_int) (ev_var fm 1 rfl rfl) ?ht) ?h1 ?h2 ?h3
  case ht =>
    rintro x y ⟨m, rfl⟩ rfl
    exact ⟨_, _, rfl, rfl, Bin.tr b_lt trivial⟩
  case h1 =>
    intro _
    refine' bd_par fm 2 3 rfl rfl (by decide) (ea_cons (ev_pot0 fm dw (ev_raw fm 0 rfl rfl) ev_int) (ea_cons (ev_potI fm dw (Or.inl rfl) (ev_raw fm 0 rfl rfl) ev_int) ea_nil)) ?_
    rintro rs ⟨r, t, rfl, rfl, r', t', rfl, ⟨pl, rfl⟩, rfl⟩
    refine ⟨_, _, rfl, ?_⟩
    refine' bd_set fm 4 rfl (ev_if (R := fun s => ∃ n, s = .dat (.int n)) (et_cells fm dw (ev_raw fm 2 rfl rfl)) (fun ne => ev_cellIx fm dw (ev_raw fm 2 rfl rfl) (ev_op (ev_var fm 3 rfl rfl) (ev_cellLen fm dw (ev_raw fm 2 rfl rfl) mLen) (b_mod ?hp)) ?hR) (fun _ => Ev.imp ev_int (fun r e => ⟨_, e⟩))) ?_
    case hp =>
      cases ns with
      | nil => exact absurd ne (by decide)
      | cons _ _ => simp only [List.length_cons]; omega
    case hR =>
      rintro r rfl
      have hl : 0 < ns.length := by
        cases ns with
        | nil => exact absurd ne (by decide)
        | cons _ _ => simp only [List.length_cons]; omega
      have h0 := Int.emod_nonneg pl (show (ns.length : Int) ≠ 0 by omega)
      have h1 := Int.emod_lt_of_pos pl (show (0 : Int) < ns.length by omega)
      exact ⟨(pl % (ns.length : Int)).toNat, by rw [Int.toNat_of_nonneg h0], by omega⟩
    rintro r ⟨am, rfl⟩
    refine' bd_ifJ (R := fun _ => True) (fun env => ∃ am : Int, env = [.raw (.ref p), .dat (.int n), .raw (.ref c), .dat (.int pl), .dat (.int am), .any]) (et_w (ew_or (et_any (et_cmp (ev_var fm 3 rfl rfl) (ev_cellLen fm dw (ev_raw fm 2 rfl rfl) mLen) b_ge)) (fun _ => ew_or1 (et_any (et_cmp (ev_var fm 4 rfl rfl) (ev_op ev_int ev_int (by walk_at "bin")) (by walk_at "cmp")))) (fun _ => trivial))) ?g1 ?g2 ?g3
    case g1 =>
      intro _
      refine' bd_set fm 4 rfl (ev_some fm oK (by decide) (a_cons (ev_op (e_int fm (a_cons (ev_var fm 4 rfl rfl) a_nil) mInt) ev_int (by walk_at "bin")) (a_cons (ev_var fm 3 rfl rfl) a_nil)) ⟨_, _, rfl⟩) ?_
      rintro r ⟨_, rfl, m, rfl⟩
      exact bd_nil ⟨m, rfl⟩
    case g2 =>
      intro _
      exact bd_nil ⟨am, rfl⟩
    case g3 =>
      rintro e ⟨am, rfl⟩
      refine' bd_setPot fm dw (Or.inl rfl) (ev_op (ev_var fm 3 rfl rfl) ev_int (by walk_at "bin")) (fun r e => ⟨_, e⟩) (ev_raw fm 0 rfl rfl) ev_int ?_
      refine' bd_setPot fm dw (Or.inr (Or.inl rfl)) (ev_var fm 4 rfl rfl) (fun r e => ⟨_, e⟩) (ev_raw fm 0 rfl rfl) ev_int ?_
      refine' bd_setPot fm dw (Or.inr (Or.inr rfl)) (ev_var fm 4 rfl rfl) (fun r e => ⟨_, e⟩) (ev_raw fm 0 rfl rfl) ev_int ?_
      exact bd_nil ⟨_, _, _, _, rfl⟩
  case h2 =>
    intro _
    exact bd_nil ⟨_, _, _, _, rfl⟩
  case h3 =>
    rintro e ⟨r2, r3, r4, r5, rfl⟩
    refine' bd_set fm 5 rfl (ev_opN (R := fun s => ∃ m : Int, s = .dat (.int m) ∧ 0 ≤ m ∧ m < n) (e_intN fm (ev_potI fm dw (Or.inr (Or.inl rfl)) (ev_raw fm 0 rfl rfl) ev_int) mInt) (ev_var fm 1 rfl rfl) ?ho) ?_
    case ho =>
      rintro x y ⟨m, rfl⟩ rfl
      exact ⟨_, _, rfl, rfl, Bin.some (b_mod n0) ⟨_, rfl, Int.emod_nonneg _ (by omega), Int.emod_lt_of_pos _ n0⟩⟩
    rintro r ⟨m, rfl, m0, m1⟩
    refine' bd_setPot fm dw (Or.inr (Or.inl rfl)) (ev_opN (R := fun s => ∃ m : Int, s = .dat (.int m)) (ev_potI fm dw (Or.inr (Or.inl rfl)) (ev_raw fm 0 rfl rfl) ev_int) (ev_var fm 1 rfl rfl) ?h1) (fun r e => e) (ev_raw fm 0 rfl rfl) ev_int ?_
    case h1 =>
      rintro x y ⟨m, rfl⟩ rfl
      exact ⟨_, _, rfl, rfl, Bin.some (b_div (dn _)) ⟨_, rfl⟩⟩
    refine' bd_setPot fm dw (Or.inr (Or.inr rfl)) (ev_opN (R := fun s => ∃ m : Int, s = .dat (.int m)) (ev_potI fm dw (Or.inr (Or.inr rfl)) (ev_raw fm 0 rfl rfl) ev_int) (ev_var fm 1 rfl rfl) ?h2) (fun r e => e) (ev_raw fm 0 rfl rfl) ev_int ?_
    case h2 =>
      rintro x y ⟨m, rfl⟩ rfl
      exact ⟨_, _, rfl, rfl, Bin.some (b_div (dn _)) ⟨_, rfl⟩⟩
    refine' bd_ret1 (ev_var fm 5 rfl rfl) ⟨_, rfl, fun n' e => ?_⟩
    cases e
    exact ⟨m, rfl, m0, m1⟩
end
def PreP (ds : List PyData) : Prop := ∃ xs : List PyData, ds = [.list xs] ∧ 0 < xs.length ∧ xs.length ≤ 1000000
def RnP (ds : List PyData) (r : PyData) : Prop := ∀ xs : List PyData, ds = [.list xs] → r ∈ xs
-- pot items

theorem scPick : FnScope ["pot", "items"] ["pot", "items"] (defScope sPick) := ⟨rfl, rfl, rfl, by decide +kernel, rfl, by decide +kernel, by decide +kernel⟩
theorem atI_in {xs : List PyData} {m : Int} (h0 : 0 ≤ m) (h1 : m < xs.length) : ∃ d, atI xs m = some d ∧ d ∈ xs := by
  have hj : m.toNat < xs.length := by omega
  refine ⟨xs[m.toNat], ?_, List.getElem_mem hj⟩
  have e : m = ((m.toNat : Nat) : Int) := (Int.toNat_of_nonneg h0).symm
  exact (congrArg (atI xs) e).trans (atI_nat (List.getElem?_eq_getElem hj))
section
variable {P : Program} {w : World} {K : PySem.W.Frag} {mg : Str → Option Value} {base : Heap} {f : Addr} {fd : FuncData}
theorem ok_pick (Fu : Fun K "_law_pick" "_law_pick" sPick f fd) (oB : Own P w K mg base "_law_below" 2 ["pot", "bound"] (spD K PreB RnB)) (mLen : mg "len" = none) : FnG P w K mg base 3 f fd ["pot", "items"] (spD K PreP RnP) := by
  refine fn_draw Fu scPick (fun ds ⟨n, e, _⟩ => by rw [e]; rfl) ?_
  intro cdv A fr s H E W p c ns ds fm dw ⟨xs, e, n0, n1⟩
  subst e
  refine bd_ret (ev_ixN (R := fun s => ∃ d, s = .dat d ∧ d ∈ xs) (ev_var fm 1 rfl rfl) (ev_draw fm dw oB (by decide) (r_cons (ev_raw fm 0 rfl rfl) (a_cons (by first | exact e_lenL fm (a_cons (ev_var fm 1 rfl rfl) a_nil) mLen | exact e_lenT fm (a_cons (ev_var fm 1 rfl rfl) a_nil) mLen) a_nil)) ⟨_, rfl, by omega, by omega⟩) ?_) ?_
  · rintro x y rfl ⟨r, rfl, hr⟩
    obtain ⟨m, rfl, m0, m1⟩ := hr _ rfl
    obtain ⟨d, hd, hm⟩ := atI_in m0 m1
    refine ⟨_, _, rfl, rfl, ?_⟩
    intro H vx vy i nx ny Q q
    exact i_list fm hd H vx vy i nx ny Q fun v H' r x' i' d' e => q v H' r x' i' d' (by rw [e]; exact ⟨d, rfl, hm⟩)
  · rintro r ⟨d, rfl, hm⟩
    refine ⟨d, rfl, fun ys e => ?_⟩
    cases e
    exact hm
end
def Snd.whole (s : Snd) : Bool := match s.way with
  | .length => decide (s.units = s.told)
  | .marks => decide (s.en = .mark)
  | .close => decide (s.en = .shut)
def Snd.word (s : Snd) : Str := if s.whole = true then "whole" else if s.en = .shut then "cut" else "waits"
def Snd.rd (s : Snd) : PyData := .tuple [.str s.word, .int s.units]
def Snd.tr (s : Snd) : PyData := .tuple (if s.whole = true ∧ s.units ≠ s.meant then [.str "fooled"] else if s.whole = false ∧ s.en ≠ .shut then [.str "waits"] else [])
theorem word_whole (s : Snd) : decide (s.word = "whole") = s.whole := by
  unfold Snd.word
  cases s.whole
  · rw [if_neg Bool.false_ne_true]
    split <;> decide
  · rw [if_pos rfl]
    decide
theorem word_waits (s : Snd) : decide (s.word = "waits") = (!s.whole && decide (s.en ≠ .shut)) := by
  unfold Snd.word
  cases s.whole
  · rw [if_neg Bool.false_ne_true]
    by_cases h : s.en = .shut
    · rw [if_pos h, h]
      decide
    · rw [if_neg h, decide_eq_true h]
      decide
  · rw [if_pos rfl, Bool.not_true, Bool.false_and]
    decide
def grWhole (ds : List PyData) (r : PyData) : Prop := ∃ s : Snd, ds = [.str s.way.s, s.toldD, .int s.units, .str s.en.s] ∧ r = .bool s.whole
def grRd (ds : List PyData) (r : PyData) : Prop := ∃ s : Snd, ds = [s.d] ∧ r = s.rd
def grTr (ds : List PyData) (r : PyData) : Prop := ∃ s : Snd, ds = [s.d] ∧ r = s.tr
theorem strs_nice : ∀ x ∈ ([("length" : Str), "marks", "close", "mark", "open", "shut", "whole", "cut", "waits", "fooled"]), PyData.strOk x = true ∧ x.length ≤ 6 := by decide +kernel
theorem way_rp (w : Way) : RP (.str w.s) 62 := by cases w <;> exact (RP.str (by decide +kernel)).up (by decide +kernel)
theorem en_rp (e : En) : RP (.str e.s) 62 := by cases e <;> exact (RP.str (by decide +kernel)).up (by decide +kernel)
theorem int_rp {i : Int} (h : 0 ≤ i ∧ i ≤ 1000000000000) : RP (.int i) 101 := RP.int (by omega)
theorem told_rp {s : Snd} (h : s.ok) : RP s.toldD 101 := by
  have h1 := h.t
  have h2 := h.u
  unfold Snd.toldD
  split
  · rename_i e
    have := h1 e
    exact RP.int (by omega)
  · exact RP.none.up (by decide)
theorem snd_shows {s : Snd} (h : s.ok) : Shows s.d := Shows.of (snd_nice s) (RP.tuple (.cons (int_rp h.m) (.cons (way_rp _) (.cons (told_rp h) (.cons (int_rp h.u) (.cons (en_rp _) .nil))))))
theorem word_nice (s : Snd) : PyData.strOk s.word = true ∧ s.word.length ≤ 6 := by
  unfold Snd.word
  split
  · decide +kernel
  · split <;> decide +kernel
theorem word_rp (s : Snd) : RP (.str s.word) 62 := (RP.str (word_nice s).1).up (by have := (word_nice s).2; omega)
theorem rd_nice (s : Snd) {n : Nat} : Nice s.rd (n + 1) := Nice.tuple (.cons (Nice.str (word_nice s).1) (.cons Nice.int .nil))
theorem rd_shows {s : Snd} (h : s.ok) : Shows s.rd := Shows.of (rd_nice s) (RP.tuple (.cons (word_rp s) (.cons (int_rp h.u) .nil)))
theorem tr_nice (s : Snd) {n : Nat} : Nice s.tr (n + 1) := by
  refine Nice.tuple ?_
  split
  · exact .cons (Nice.str (by decide +kernel)) .nil
  · split
    · exact .cons (Nice.str (by decide +kernel)) .nil
    · exact .nil
theorem tr_shows (s : Snd) : Shows s.tr := by
  have h : ∃ n, n ≤ 900 ∧ RP s.tr n := by
    unfold Snd.tr
    split
    · exact ⟨_, by decide, RP.tuple (.cons ((RP.str (by decide +kernel)).up (show _ ≤ 62 by decide +kernel)) .nil)⟩
    · split
      · exact ⟨_, by decide, RP.tuple (.cons ((RP.str (by decide +kernel)).up (show _ ≤ 62 by decide +kernel)) .nil)⟩
      · exact ⟨_, by decide, RP.tuple .nil⟩
  obtain ⟨n, l, r⟩ := h
  exact Shows.of (tr_nice s) (r.up l)
def wEn : Way → En
  | .length => .op
  | .marks => .mark
  | .close => .shut
def Snd.all (m : Int) (w : Way) (b : Int) : Snd := ⟨m, w, b, b, wEn w⟩
theorem all_whole (m : Int) (w : Way) (b : Int) : (Snd.all m w b).whole = true := by cases w <;> simp [Snd.all, Snd.whole, wEn]
def grWs (ds : List PyData) (r : PyData) : Prop := ∃ (m : Int) (w : Way) (b : Int), ds = [.int m, .str w.s, .int b] ∧ r = (Snd.all m w b).d
def grWords (ds : List PyData) (r : PyData) : Prop := ∃ s : Snd, ds = [.int s.meant, s.rd] ∧ r = s.tr
-- meant way body
theorem scWholeSnd : FnScope ["meant", "way", "body"] ["meant", "way", "body"] (defScope sWholeSnd) := ⟨rfl, rfl, rfl, by decide +kernel, rfl, by decide +kernel, by decide +kernel⟩
section
variable {P : Program} {w : World} {K : PySem.W.Frag} {mg : Str → Option Value} {base : Heap} {f : Addr} {fd : FuncData}
theorem ok_wholeSnd (Fu : Fun K "whole_sending" "whole_sending" sWholeSnd f fd) : FnG P w K mg base 1 f fd ["meant", "way", "body"] (spF K grWs) := by
  refine fn_pure Fu scWholeSnd (fun ds r ⟨m, w, b, e, _⟩ => by rw [e]; rfl) ?_
  intro cdv A fr s H E W ds r fm ⟨m, way, b, e, er⟩
  subst e er
  refine' bd_if1 (T1.is (et_cmp (ev_var fm 1 rfl rfl) ev_str (by walk_at "cmp")) (way_len way)) ?a ?b
  case a =>
    intro h
    have h := of_decide_eq_true h
    subst h
    exact bd_ret1 (ev_tup (a_cons (ev_var fm 0 rfl rfl) (a_cons ev_str (a_cons (ev_var fm 2 rfl rfl) (a_cons (ev_var fm 2 rfl rfl) (a_cons ev_str a_nil)))))) rfl
  case b =>
    intro h
    have h := of_decide_eq_false h
    refine bd_nil ?_
    refine' bd_if1 (T1.is (et_cmp (ev_var fm 1 rfl rfl) ev_str (by walk_at "cmp")) (way_mar way)) ?a ?b
    case a =>
      intro h
      have h := of_decide_eq_true h
      subst h
      exact bd_ret1 (ev_tup (a_cons (ev_var fm 0 rfl rfl) (a_cons ev_str (a_cons ev_non (a_cons (ev_var fm 2 rfl rfl) (a_cons ev_str a_nil)))))) rfl
    case b =>
      intro h2
      have h2 := of_decide_eq_false h2
      refine bd_nil ?_
      refine bd_ret1 (ev_tup (a_cons (ev_var fm 0 rfl rfl) (a_cons ev_str (a_cons ev_non (a_cons (ev_var fm 2 rfl rfl) (a_cons ev_str a_nil)))))) ?_
      cases way
      · exact absurd rfl h
      · exact absurd rfl h2
      · rfl
end
def isIntD : PyData → Bool
  | .int _ => true
  | _ => false
def isCnt : PyData → Bool
  | .int i => decide (0 ≤ i)
  | _ => false
def ways : List Str := ["length", "marks", "close"]
def endsOf (y : Str) : List Str := if y = "marks" then ["mark", "open", "shut"] else ["open", "shut"]
def toldOk (y : Str) (t : PyData) (u : Int) : Bool := if y = "length" then (match t with | .int i => decide (0 ≤ i) && decide (u ≤ i) | _ => false) else isNone t
def isSnd : PyData → Bool
  | .tuple [m, .str y, t, .int u, e] => isCnt m && (strIn (.str y) ways && (decide (0 ≤ u) && (toldOk y t u && strIn e (endsOf y))))
  | _ => false
def len5 : PyData → Bool
  | .tuple ds => decide (ds.length = 5)
  | _ => false
def tup5 (d : PyData) : Bool := isaD "tuple" d && len5 d
theorem isa_int (d : PyData) : (isaD "int" d && !isaD "bool" d) = isIntD d := by cases d <;> rfl
theorem isa_str {d : PyData} (h : isaD "str" d = true) : ∃ z, d = .str z := by cases d <;> first | exact ⟨_, rfl⟩ | (simp [isaD, tyD] at h)
theorem isa_tup {d : PyData} (h : isaD "tuple" d = true) : ∃ ds, d = .tuple ds := by cases d <;> first | exact ⟨_, rfl⟩ | (simp [isaD, tyD] at h)
theorem cnt_int {d : PyData} (h : isCnt d = true) : ∃ i : Int, d = .int i ∧ 0 ≤ i := by cases d <;> first | exact ⟨_, rfl, of_decide_eq_true h⟩ | exact absurd h Bool.false_ne_true
theorem int_int {d : PyData} (h : isIntD d = true) : ∃ i : Int, d = .int i := by cases d <;> first | exact ⟨_, rfl⟩ | exact absurd h Bool.false_ne_true
theorem no_five {d : PyData} (h : tup5 d = false) : isSnd d = false := by
  unfold isSnd
  split
  · exact absurd h (by unfold tup5 len5 isaD tyD; simp)
  · rfl
theorem five {d : PyData} (h : tup5 d = true) : ∃ m y t u e, d = .tuple [m, y, t, u, e] := by
  have h := Bool.and_eq_true_iff.mp h
  obtain ⟨ds, rfl⟩ := isa_tup h.1
  have l : ds.length = 5 := of_decide_eq_true h.2
  match ds, l with
  | [m, y, t, u, e], _ => exact ⟨m, y, t, u, e, rfl⟩
theorem not_or5 (d : PyData) : (!isaD "tuple" d || !len5 d) = !tup5 d := by
  unfold tup5
  rw [Bool.not_and]
theorem strIn_of {y : PyData} {ss : List Str} (h : strIn y ss = true) : ∃ z, y = .str z := by cases y <;> first | exact ⟨_, rfl⟩ | exact absurd h Bool.false_ne_true
theorem ways_in {z : Str} (h : strIn (.str z) ways = true) : ∃ w : Way, z = w.s := by
  have h : (["length", "marks", "close"] : List Str).any (· == z) = true := h
  simp only [List.any_cons, List.any_nil, Bool.or_false, Bool.or_eq_true, beq_iff_eq] at h
  rcases h with h | h | h
  · exact ⟨.length, h.symm⟩
  · exact ⟨.marks, h.symm⟩
  · exact ⟨.close, h.symm⟩
theorem ways_has (w : Way) : strIn (.str w.s) ways = true := by cases w <;> decide
def grInt (ds : List PyData) (r : PyData) : Prop := ∃ d, ds = [d] ∧ r = .bool (isIntD d)
def grCnt (ds : List PyData) (r : PyData) : Prop := ∃ d, ds = [d] ∧ r = .bool (isCnt d)
def grTold (ds : List PyData) (r : PyData) : Prop := ∃ (y : Str) (t : PyData) (u : Int), ds = [.str y, t, .int u] ∧ r = .bool (toldOk y t u)
def grSnd (ds : List PyData) (r : PyData) : Prop := ∃ d, ds = [d] ∧ okD d = true ∧ r = .bool (isSnd d)
-- thing
theorem scInt : FnScope ["thing"] ["thing"] (defScope sIsInt) := ⟨rfl, rfl, rfl, by decide +kernel, rfl, by decide +kernel, by decide +kernel⟩
theorem scCount : FnScope ["thing"] ["thing"] (defScope sIsCount) := ⟨rfl, rfl, rfl, by decide +kernel, rfl, by decide +kernel, by decide +kernel⟩
section
variable {P : Program} {w : World} {K : PySem.W.Frag} {mg : Str → Option Value} {base : Heap} {f : Addr} {fd : FuncData}
theorem ok_isInt (Fu : Fun K "is_integer" "is_integer" sIsInt f fd) (mIsi : mg "isinstance" = none) (mInt : mg "int" = none) (mBool : mg "bool" = none) : FnG P w K mg base 1 f fd ["thing"] (spF K grInt) := by
  refine fn_pure Fu scInt (fun ds r ⟨s, e, _⟩ => by rw [e]; rfl) ?_
  intro cdv A fr s H E W ds r fm ⟨x, e, er⟩
  subst e er
  exact bd_ret1 (E1.is (ev_and2 (ev_isi fm (ev_var fm 0 rfl rfl) mIsi mInt kit_int) (fun _ => ev_not (ev_isi fm (ev_var fm 0 rfl rfl) mIsi mBool kit_bool))) (by rw [isa_int])) rfl

theorem ok_isCount (Fu : Fun K "is_count" "is_count" sIsCount f fd) (oI : Own P w K mg base "is_integer" 1 ["thing"] (spF K grInt)) : FnG P w K mg base 2 f fd ["thing"] (spF K grCnt) := by
  refine fn_pure Fu scCount (fun ds r ⟨s, e, _⟩ => by rw [e]; rfl) ?_
  intro cdv A fr s H E W ds r fm ⟨x, e, er⟩
  subst e er
  refine bd_ret1 (E1.is (ev_and2 (c := isIntD x) (d := isCnt x) (ev_pure fm oI (by decide) (a_cons (ev_var fm 0 rfl rfl) a_nil) (by walk_at "gr")) ?h) ?e) rfl
  case h =>
    intro h
    obtain ⟨i, rfl⟩ := int_int h
    refine E1.is (ev_cmp (ev_var fm 0 rfl rfl) ev_int (by walk_at "cmp")) ?_
    rfl
  case e => cases x <;> rfl
end
theorem scPotOf : FnScope ["script", "cells", "cell", "place"] ["script"] (defScope sPotOf) := ⟨rfl, rfl, rfl, by decide +kernel, rfl, by decide +kernel, by decide +kernel⟩
theorem ints_set (ms : List Int) (j : Nat) (n : Int) : (ms.map V.int).set j (.int n) = (ms.set j n).map V.int := by rw [List.map_set]
section
variable {P : Program} {w : World} {K : PySem.W.Frag} {mg : Str → Option Value} {base : Heap} {f : Addr} {fd : FuncData}
theorem ok_potOf (Fu : Fun K "_law_pot_of" "_law_pot_of" sPotOf f fd) (mAbs : mg "abs" = none) (mEnum : mg "enumerate" = none) : FnG P w K mg base 1 f fd ["script"] (spPot K) := by
  refine fn_raw Fu scPotOf (fun vs H Q E ⟨a, ns, e, _⟩ => by rw [e]; rfl) fun cdv A fr s H vs Q E g hr hsp => ?_
  obtain ⟨a, ns, rfl, hS, hl, q⟩ := hsp
  refine ⟨_, pss_cons (ps_setLc (own := [("cell", 2)]) (g := gName 2) (tt := tYes) (i := 1) rfl scPotOf.nd rfl (lcl_of (sc := defScope sPotOf) rfl (by decide +kernel)) (sw_true rfl (lcl_of (sc := defScope sPotOf) rfl (by decide +kernel)) rfl (by decide +kernel))
        (pi_list (pe_slice sl_list (pe_var (i := 0) rfl (vis_of (sc := defScope sPotOf) rfl (by decide +kernel))) po_none (po_some pe_int))) (blkOk_by (N := ["script", "cells", "cell", "place"]) (sc := defScope sPotOf) (by decide +kernel)) (fun _ _ _ _ _ => pg_name (i := 2) scPotOf.nd rfl (Or.inl rfl)) (fun _ _ _ _ _ => pts_nil)
        (fun _ _ _ _ _ => pe_callB call_abs (by rfl) mAbs (by decide +kernel) (pa_cons (pv 2) pa_nil)))
    (pss_cons (ps_for PassesOwn.never rfl (pi_enum (gl_of (sc := defScope sPotOf) rfl (by decide +kernel)) mEnum (pa_cons (pe_slice sl_list (pe_var (i := 0) rfl (vis_of (sc := defScope sPotOf) rfl (by decide +kernel))) (po_some pe_int) (po_some pe_int)) pa_nil))
        (pg_tup rfl (pgs_cons (pg_name (i := 3) scPotOf.nd rfl (loc_of (sc := defScope sPotOf) rfl (by decide +kernel))) (pgs_cons (pg_name (i := 2) scPotOf.nd rfl (loc_of (sc := defScope sPotOf) rfl (by decide +kernel))) pgs_nil)))
        (pss_one (ps_asg (pe_op op_add (pe_ix ix_list (pe_var (i := 1) rfl (vis_of (sc := defScope sPotOf) rfl (by decide +kernel))) (pe_op op_mod (pe_var (i := 3) rfl (vis_of (sc := defScope sPotOf) rfl (by decide +kernel))) pe_int) (fun _ _ => rfl)) (pe_callB call_abs (gl_of (sc := defScope sPotOf) rfl (by decide +kernel)) mAbs (by decide +kernel) (pa_cons (pe_var (i := 2) rfl (vis_of (sc := defScope sPotOf) rfl (by decide +kernel))) pa_nil)))
          (pg_sub (pe_var (i := 1) rfl (vis_of (sc := defScope sPotOf) rfl (by decide +kernel))) (pe_op op_mod (pe_var (i := 3) rfl (vis_of (sc := defScope sPotOf) rfl (by decide +kernel))) pe_int) set_list))))
    (pss_one (ps_ret (pe_lst (pa_cons (pe_var (i := 1) rfl (vis_of (sc := defScope sPotOf) rfl (by decide +kernel))) (pa_cons pe_int (pa_cons pe_int (pa_cons pe_int pa_nil)))))))), ?_⟩
  -- cells = [abs(cell) for cell in script[:17]]
  refine ⟨.ref a, rfl, 17, rfl, a, ns.map V.int, rfl, hS, fun c0 n0 => ?_⟩
  have x0 : Xt H (upd H c0 (.lst (cutV (ns.map V.int) none (some 17)))) := Xt.new n0
  refine ⟨c0, rfl, ⟨_, SqL.of upd_same⟩, fun D nD => ?_⟩
  have nDH : H D = none := by
    cases hq : H D with
    | none => rfl
    | some o => rw [x0 D o hq] at nD; cases nD
  have e17 : cutV (ns.map V.int) none (some 17) = (ns.take 17).map V.int := cut_to ns 17
  refine lc_list (K := K) (a := c0) (xs := (ns.take 17).map V.int) (fun i H' => ∃ ms : List Int, ms.length = i ∧ H' D = some (.lst (ms.map V.int)) ∧ Xt (upd H c0 (.lst (cutV (ns.map V.int) none (some 17)))) H') ?_ ?_ ?_ ?_
  · exact ⟨[], rfl, upd_same, Xt.new nD⟩
  · intro i H' _ ⟨ms, _, _, x⟩
    refine SqL.of (x _ _ ?_)
    rw [upd_same, e17]
  · intro i v H' hv ⟨ms, el, ed, x⟩
    rw [List.getElem?_map] at hv
    obtain ⟨z, hz, rfl⟩ := Option.map_eq_some_iff.mp hv
    refine ⟨wipe_set 2, ?_⟩
    have hi : i < 17 := by
      have := (List.getElem?_eq_some_iff.mp hz).1
      rw [List.length_take] at this
      omega
    refine ⟨.int z, rfl, z, rfl, ms.map V.int, ed, by rw [List.length_map]; exact small1000 (by omega), ms ++ [if z < 0 then -z else z], by rw [List.length_append, List.length_singleton, el], by rw [upd_same, List.map_append] <;> rfl, fun b o h => ?_⟩
    rw [upd_ne (ne_of_none h nD)]
    exact x b o h
  · intro H1 ⟨ms, el, ed, x1⟩
    have xx1 : Xt H H1 := x0.trans x1
    -- the loop
    refine ⟨.ref a, rfl, 17, rfl, 60, rfl, a, ns.map V.int, rfl, Same.seq xx1 hS, fun e1 ne1 => ?_⟩
    have ne1D : D ≠ e1 := ne_of_none ed ne1
    obtain ⟨zs, ez⟩ := cut_in ns (some 17) (some 60)
    refine ⟨e1, zs.map V.int, rfl, SqL.of (by rw [upd_same, ez]), ?_⟩
    refine for_it (walk_enum (K := K) (a := e1) (xs := zs.map V.int)) (fun i σ' H' => ∃ (ms : List Int) (y2 y3 : Option V), σ' = [some (.ref a), some (.ref D), y2, y3] ∧ H' D = some (.lst (ms.map V.int)) ∧ (zs ≠ [] → ms.length = 17) ∧ Xt H H' ∧ H' e1 = some (.lst (zs.map V.int))) ?_ ?_ ?_ ?_
    · refine ⟨ms, none, none, rfl, ?_, fun nz => ?_, xx1.trans (Xt.new ne1), by rw [upd_same, ez]⟩
      · rw [upd_ne ne1D]
        exact ed
      · rw [el, List.length_map, List.length_take]
        by_cases h : ns.length ≤ 17
        · have := cut_from0 ns 17 (some 60) h
          rw [show (17 : Int) = ((17 : Nat) : Int) from rfl] at ez
          rw [this] at ez
          cases zs with
          | nil => exact absurd rfl nz
          | cons _ _ => simp at ez
        · omega
    · intro i σ' H' _ ⟨_, _, _, _, _, _, _, h⟩
      exact SqL.of h
    · intro i v σ' H' H2 hi ⟨ms, y2, y3, es, ed', l17, xt, ee⟩ hy
      obtain ⟨T, vi, vy, rfl, nT, rfl, f1, f2⟩ := hy
      cases f1
      subst es
      have f2 : (zs.map V.int)[i]? = some vy := f2
      rw [List.getElem?_map] at f2
      obtain ⟨z, hz, rfl⟩ := Option.map_eq_some_iff.mp f2
      have nz : zs ≠ [] := by
        intro c
        subst c
        simp at hz
      have l := l17 nz
      have nTD : D ≠ T := ne_of_none ed' nT
      have edT : (upd H' T (.tup [.int (i : Nat), .int z])) D = some (.lst (ms.map V.int)) := by rw [upd_ne nTD]; exact ed'
      have m0 := Int.emod_nonneg (i : Int) (show (17 : Int) ≠ 0 by decide)
      have m1 := Int.emod_lt_of_pos (i : Int) (show (0 : Int) < 17 by decide)
      have hj : ((i : Int) % 17).toNat < ms.length := by omega
      have ej : (i : Int) % 17 = ((((i : Int) % 17).toNat : Nat) : Int) := (Int.toNat_of_nonneg m0).symm
      have at1 : (ms.map V.int)[((i : Int) % 17).toNat]? = some (.int ms[((i : Int) % 17).toNat]) := by rw [List.getElem?_map, List.getElem?_eq_getElem hj] <;> rfl
      refine ⟨T, [.int (i : Nat), .int z], rfl, SqT.of upd_same, rfl, _, _, rfl, _, _, rfl, rfl, ?_⟩
      refine ⟨.ref D, rfl, .int (i : Nat), rfl, _, 17, rfl, rfl, (show (0 : Int) < 17 by decide), D, _, _, .int ms[((i : Int) % 17).toNat], rfl, rfl, SqL.of edT, at_of ej at1, .int z, rfl, z, rfl, _, _, rfl, rfl, .ref D, rfl, .int (i : Nat), rfl, _, 17, rfl, rfl, (show (0 : Int) < 17 by decide), D, _, _, ((i : Int) % 17).toNat, rfl, rfl, edT, ?_, ?_⟩
      · unfold ixN
        rw [if_pos m0, if_pos (by rw [List.length_map]; omega)]
      · refine ⟨ms.set ((i : Int) % 17).toNat (ms[((i : Int) % 17).toNat] + if z < 0 then -z else z), some (.int z), some (.int (i : Nat)), rfl, ?_, fun _ => by rw [List.length_set]; exact l, fun b o h => ?_, ?_⟩
        · rw [upd_same, ints_set]
        · rw [upd_ne (ne_of_none h nDH)]
          have nb : b ≠ T := ne_of_none (xt b o h) nT
          rw [upd_ne nb]
          exact xt b o h
        · rw [upd_ne (Ne.symm ne1D), upd_ne (ne_of_none ee nT)]
          exact ee
    · intro σ' H' ⟨ms, y2, y3, es, ed', _, xt, _⟩
      subst es
      refine ⟨.ref D, rfl, Nat.le_of_lt (small1000 (show 4 ≤ 1000 by decide)), fun p np => ?_⟩
      have npD : D ≠ p := ne_of_none ed' np
      have npH : H p = none := by
        cases hq : H p with
        | none => rfl
        | some o => rw [xt p o hq] at np; cases np
      exact q p D ms _ npH nDH (xt.trans (Xt.new np)) ⟨Ne.symm npD, ⟨0, 0, 0, upd_same⟩, by rw [upd_ne npD]; exact ed'⟩
end
/-! ## senders -/
def breaks : List Str := ["none", "shut", "open"]
def isSender : PyData → Bool
  | .tuple [a, b] => strIn a ways && strIn b breaks
  | _ => false
def len2 : PyData → Bool
  | .tuple ds => decide (ds.length = 2)
  | _ => false
def isSenders : PyData → Bool
  | .list ds => ds.all isSender
  | _ => false
def canS (z : Str) (m u : Int) : Bool := if z = "none" then decide (u = m) else decide (u < m)
theorem strIn_any {d : PyData} {ss : List Str} (h : strIn d ss = true) : ∃ z, d = .str z ∧ z ∈ ss := by
  obtain ⟨z, rfl⟩ := strIn_of h
  have h : ss.any (· == z) = true := h
  obtain ⟨x, hx, e⟩ := List.any_eq_true.mp h
  exact ⟨z, rfl, (beq_iff_eq.mp e) ▸ hx⟩
theorem sender_of {d : PyData} (h : isSender d = true) : ∃ (y : Way) (z : Str), d = .tuple [.str y.s, .str z] ∧ z ∈ breaks := by
  unfold isSender at h
  split at h
  · rename_i a b
    simp only [Bool.and_eq_true] at h
    obtain ⟨y, rfl⟩ := strIn_of h.1
    obtain ⟨w, rfl⟩ := ways_in h.1
    obtain ⟨z, rfl, m⟩ := strIn_any h.2
    exact ⟨w, z, rfl, m⟩
  · exact absurd h Bool.false_ne_true
def MG (mg : Str → Option Value) (K : PySem.W.Frag) (x : Str) (ss : List Str) : Prop := ∃ a : Addr, mg x = some (.ref a) ∧ DC K (.ref a) (.tuple (ss.map .str))
theorem ev_mg {ι : Type} {F : ι → Cx} {P : Program} {w : World} {K : PySem.W.Frag} {mg : Str → Option Value} {base : Heap} {k : Nat} {sc : Scope} {W : Wd} {env : List Sl} {N : List Str} (fm : Fam P w K mg base N k sc F) {x : Str} {pos : Pos} {ss : List Str} (h : MG mg K x ss) (hg : glB sc x = true := by decide +kernel) (hd : (x == ("__debug__" : Str)) = false := by decide) : E1 F W K (.Name x pos) env (.dat (.tuple (ss.map .str))) :=
  ev_glob fm (v := .ref h.choose) h.choose_spec.1 rfl h.choose_spec.2 hg hd
def small (d : PyData) : Prop := ∀ ds, d = .list ds → ds.length ≤ 1000
def grSdr (ds : List PyData) (r : PyData) : Prop := ∃ d, ds = [d] ∧ okD d = true ∧ r = .bool (isSender d)
def grCan (ds : List PyData) (r : PyData) : Prop := ∃ (y : Way) (z : Str) (m u : Int), ds = [.tuple [.str y.s, .str z], .int m, .int u] ∧ r = .bool (canS z m u)
def PreCs (ds : List PyData) : Prop := ∃ d, ds = [d] ∧ okD d = true ∧ small d
def FnCs (ds : List PyData) (_ : PyData) : Prop := ∃ d, ds = [d] ∧ isSenders d = true
def ExCs (cS : Addr) (ds : List PyData) (cls : Value) (fs : XD) : Prop := ∃ d, ds = [d] ∧ isSenders d = false ∧ cls = .ref cS ∧ fs = []
def PreSt (ds : List PyData) : Prop := ∃ d m u, ds = [d, .int m, .int u] ∧ okD d = true
def FnSt (ds : List PyData) (_ : PyData) : Prop := ∃ (y : Way) (z : Str) (m u : Int), ds = [.tuple [.str y.s, .str z], .int m, .int u] ∧ z ∈ breaks ∧ canS z m u = true
def ExSt (cS cM : Addr) (ds : List PyData) (cls : Value) (fs : XD) : Prop := ∃ d m u, ds = [d, .int m, .int u] ∧ ((isSender d = false ∧ cls = .ref cS ∧ fs = []) ∨ (∃ (y : Way) (z : Str), d = .tuple [.str y.s, .str z] ∧ z ∈ breaks ∧ canS z m u = false ∧ cls = .ref cM ∧ fs = []))
theorem range_map {α : Type} {ds : List PyData} {g : PyData → α} {d0 : PyData} : (List.range ds.length).map (fun i => g (ds.getD i d0)) = ds.map g := by
  apply List.ext_getElem
  · simp
  · intro i h1 h2
    have : i < ds.length := by simpa using h2
    simp [List.getD_eq_getElem?_getD, this]
theorem or_senders (x : PyData) : (!isaD "list" x || !isSenders x) = !isSenders x := by cases x <;> first | rfl | (show (!true || _) = _; rfl)
-- thing



theorem scIsSdr : FnScope ["thing"] ["thing"] (defScope sIsSdr) := ⟨rfl, rfl, rfl, by decide +kernel, rfl, by decide +kernel, by decide +kernel⟩
section
variable {P : Program} {w : World} {K : PySem.W.Frag} {mg : Str → Option Value} {base : Heap} {f : Addr} {fd : FuncData} {cS cM cB : Addr}
theorem ok_isSdr (Fu : Fun K "is_sender" "is_sender" sIsSdr f fd) (hs : (base.get? sysModules).isSome = true) (gW : MG mg K "WAYS" ways) (gB : MG mg K "BREAKS" breaks) (mIsi : mg "isinstance" = none) (mTuple : mg "tuple" = none) (mLen : mg "len" = none) : FnG P w K mg base 1 f fd ["thing"] (spF K grSdr) := by
  refine fn_pure Fu scIsSdr (fun ds r ⟨_, e, _⟩ => by rw [e]; rfl) ?_
  intro cdv A fr s H E W ds r fm ⟨x, e, ok, er⟩
  subst e er
  refine bd_ret1 (E1.is (ev_andS (c := isaD "tuple" x) (d := len2 x && isSender x) (ev_isi fm (ev_var fm 0 rfl rfl) mIsi mTuple kit_tuple) ?a) ?z) rfl
  case z =>
    congr 2
    unfold isSender
    split
    · rfl
    · rw [Bool.and_false, Bool.and_false]
  case a =>
    intro h
    obtain ⟨ds, rfl⟩ := isa_tup h
    refine ev_andS (c := len2 (.tuple ds)) (d := isSender (.tuple ds)) (E1.is (ev_cmp (e_lenT fm (a_cons (ev_var fm 0 rfl rfl) a_nil) mLen) ev_int b_eqI) ?l) ?b
    case l =>
      show Sl.dat (.bool (decide ((ds.length : Int) = 2))) = Sl.dat (.bool (decide (ds.length = 2)))
      congr 3
      exact propext ⟨fun z => by omega, fun z => by omega⟩
    case b =>
      intro h2
      have l2 : ds.length = 2 := of_decide_eq_true h2
      match ds, l2, ok with
      | [a, b], _, ok =>
        have ok2 := okDAll_iff.mp (show okDAll [a, b] = true from ok)
        exact ev_andS (c := strIn a ways) (d := strIn b breaks) (ev_cmp (ev_ix (x := .tuple [a, b]) (ev_var fm 0 rfl rfl) ev_int (i_tup fm rfl)) (ev_mg fm gW) (b_inSt fm hs (ok2 a (by simp)))) (fun _ => ev_and1 (ev_cmp (ev_ix (x := .tuple [a, b]) (ev_var fm 0 rfl rfl) ev_int (i_tup fm rfl)) (ev_mg fm gB) (b_inSt fm hs (ok2 b (by simp)))))
-- sender meant units
theorem scCan : FnScope ["sender", "meant", "units"] ["sender", "meant", "units"] (defScope sCan) := ⟨rfl, rfl, rfl, by decide +kernel, rfl, by decide +kernel, by decide +kernel⟩
theorem ok_can (Fu : Fun K "_can_send" "_can_send" sCan f fd) : FnG P w K mg base 1 f fd ["sender", "meant", "units"] (spF K grCan) := by
  refine fn_pure Fu scCan (fun ds r ⟨_, _, _, _, e, _⟩ => by rw [e]; rfl) ?_
  intro cdv A fr s H E W ds r fm ⟨y, z, m, u, e, er⟩
  subst e er
  refine bd_ret1 (ev_if (R := fun s => s = .dat (.bool (canS z m u))) (et_cmp (ev_ix (x := .tuple [.str y.s, .str z]) (ev_var fm 0 rfl rfl) ev_int (i_tup fm rfl)) ev_str b_eqS) (fun h => E1.is (ev_cmp (ev_var fm 2 rfl rfl) (ev_var fm 1 rfl rfl) (by walk_at "cmp")) ?a) (fun h => E1.is (ev_cmp (ev_var fm 2 rfl rfl) (ev_var fm 1 rfl rfl) (by walk_at "cmp")) ?b)) rfl
  case a => unfold canS; rw [if_pos (of_decide_eq_true h.symm)]
  case b => unfold canS; rw [if_neg (of_decide_eq_false h.symm)]
-- thing sender

theorem scChkS : FnScope ["thing", "sender"] ["thing"] (defScope sChkS) := ⟨rfl, rfl, rfl, by decide +kernel, rfl, by decide +kernel, by decide +kernel⟩
theorem ok_chkS (Fu : Fun K "check_senders" "check_senders" sChkS f fd) (T : ExcC K mg "NoSender" cS) (oSd : Own P w K mg base "is_sender" 1 ["thing"] (spF K grSdr)) (mIsi : mg "isinstance" = none) (mList : mg "list" = none) (mAll : mg "all" = none) : FnX P w K mg base 2 f fd ["thing"] (spX K PreCs FnCs (ExCs cS)) := by
  refine fn_raises Fu scChkS (fun ds ⟨_, e, _⟩ => by rw [e]; rfl) ?_
  intro cdv A fr s H E W ds fm tk ⟨x, e, ok, sm⟩
  subst e
  refine' bde_if (t := !isSenders x) (T1.is (et_or2 (c := !isaD "list" x) (d := !isSenders x) (et_not (et_val (ev_isi fm (ev_var fm 0 rfl rfl) mIsi mList kit_list))) ?al) (or_senders x)) ?a ?b
  case al =>
    intro h
    obtain ⟨ds, rfl⟩ : ∃ ds, x = .list ds := by cases x <;> first | exact ⟨_, rfl⟩ | exact absurd h (by show ¬ (true = false); decide)
    have ok2 := okDAll_iff.mp (show okDAll ds = true from ok)
    refine et_not (et_val (E1.is (e_all fm (bs := ds.map isSender) (Ev.imp (ev_lc fm (ds := ds) (f := fun _ => true) (R := fun i e => e = .bool (isSender (ds.getD i .none))) 1 rfl (by decide +kernel) (ev_var fm 0 rfl rfl) (fun _ _ _ _ _ _ _ => if_nil) ?he (sz_small (Nat.le_trans (sm ds rfl) (by decide)))) ?im) mAll) ?ev))
    case he =>
      intro i d D acc hd _ nD fm
      refine Ev.imp (ev_pure fm oSd (by decide) (a_cons (ev_var fm 1 rfl rfl) a_nil) ⟨_, rfl, ok2 d (List.mem_of_getElem? hd), rfl⟩) fun r e => ⟨_, e, ?_⟩
      rw [List.getD_eq_getElem?_getD, hd]
      rfl
    case im =>
      rintro r ⟨es, rfl, pr⟩
      rw [paired_all (g := fun i => .bool (isSender (ds.getD i .none))) pr, range_map (g := fun d => PyData.bool (isSender d)), List.map_map]
      rfl
    case ev =>
      show Sl.dat (.bool ((ds.map isSender).all id)) = Sl.dat (.bool (ds.all isSender))
      rw [List.all_map]
      rfl
  case a =>
    intro h
    exact bde_raise0 fm tk T ⟨x, rfl, by simpa using h, rfl, rfl⟩ trivial
  case b =>
    intro h
    exact bde_nil (bde_nil ⟨x, rfl, by simpa using h⟩)
-- sender meant units way stop

theorem scSent : FnScope ["sender", "meant", "units", "way", "stop"] ["sender", "meant", "units"] (defScope sSent) := ⟨rfl, rfl, rfl, by decide +kernel, rfl, by decide +kernel, by decide +kernel⟩
theorem ok_sent (Fu : Fun K "sent" "sent" sSent f fd) (T : ExcC K mg "NoSender" cS) (TM : ExcC K mg "Mismatch" cM) (oSd : Own P w K mg base "is_sender" 1 ["thing"] (spF K grSdr)) (oCn : Own P w K mg base "_can_send" 1 ["sender", "meant", "units"] (spF K grCan)) (oWs : Own P w K mg base "whole_sending" 1 ["meant", "way", "body"] (spF K grWs)) :
    FnX P w K mg base 2 f fd ["sender", "meant", "units"] (spX K PreSt FnSt (ExSt cS cM)) := by
  refine fn_raises Fu scSent (fun ds ⟨_, _, _, e, _⟩ => by rw [e]; rfl) ?_
  intro cdv A fr s H E W ds fm tk ⟨x, m, u, e, ok⟩
  subst e
  refine' bde_if (t := !isSender x) (et_not (et_val (ev_pure fm oSd (by decide) (a_cons (ev_var fm 0 rfl rfl) a_nil) ⟨_, rfl, ok, rfl⟩))) ?a ?b
  case a =>
    intro h
    exact bde_raise0 fm tk T ⟨x, m, u, rfl, Or.inl ⟨by simpa using h, rfl, rfl⟩⟩ trivial
  case b =>
    intro h
    obtain ⟨y, z, rfl, mz⟩ := sender_of (d := x) (by simpa using h)
    refine bde_nil ?_
    refine' bde_if (t := !canS z m u) (et_not (et_val (ev_pure fm oCn (by decide) (a_cons (ev_var fm 0 rfl rfl) (a_cons (ev_var fm 1 rfl rfl) (a_cons (ev_var fm 2 rfl rfl) a_nil))) ⟨y, z, m, u, rfl, rfl⟩))) ?c ?d
    case c =>
      intro h
      exact bde_raise0 fm tk TM ⟨_, m, u, rfl, Or.inr ⟨y, z, rfl, mz, by simpa using h, rfl, rfl⟩⟩ trivial
    case d =>
      intro h
      have hc : canS z m u = true := by simpa using h
      refine bde_nil (bde_of ?_)
      refine' bd_asg1 (ev_var fm 0 rfl rfl) (tg_tup fm (tgs_cons (tg_name fm 3 rfl) (tgs_cons (tg_name fm 4 rfl) tgs_nil)) 2 rfl) ?_
      refine' bd_if1 (et_cmp (ev_var fm 4 rfl rfl) ev_str (by walk_at "cmp")) ?e ?g
      case e =>
        intro h
        exact bd_ret1 (ev_pure fm oWs (by decide) (a_cons (ev_var fm 1 rfl rfl) (a_cons (ev_var fm 3 rfl rfl) (a_cons (ev_var fm 1 rfl rfl) a_nil))) ⟨m, y, m, rfl, rfl⟩) ⟨_, rfl, y, z, m, u, rfl, mz, hc⟩
      case g =>
        intro h
        refine bd_nil (bd_ret1 (ev_tup (a_cons (ev_var fm 1 rfl rfl) (a_cons (ev_var fm 3 rfl rfl) (a_cons (ev_if (R := fun s => s = .dat (if y.s = "length" then .int m else .none)) (et_cmp (ev_var fm 3 rfl rfl) ev_str (by walk_at "cmp")) (fun h => E1.is (ev_var fm 1 rfl rfl) ?v1) (fun h => E1.is ev_non ?v2)) (a_cons (ev_var fm 2 rfl rfl) (a_cons (ev_var fm 4 rfl rfl) a_nil)))))) ⟨_, rfl, y, z, m, u, rfl, mz, hc⟩)
        case v1 => rw [if_pos (of_decide_eq_true h.symm)]
        case v2 => rw [if_neg (of_decide_eq_false h.symm)]
end
end K36

set_option Elab.async false
set_option linter.all false
set_option maxRecDepth 100000
set_option maxHeartbeats 1000000
namespace K36
open PySem PySem.Spec PyProof.Rows L2 Cr
local macro_rules | `(tactic| walk_at "ev") => `(tactic| first
  | exact ev_int
  | exact ev_str
  | exact ev_non
  | exact ev_bl
  | (walk_at "var")
  | (refine' ev_op ?a ?b ?c; (case a => walk_at "ev"); (case b => walk_at "ev"); (case c => walk_at "bin"))
  | (refine' ev_cmp ?a ?b ?c; (case a => walk_at "ev"); (case b => walk_at "ev"); (case c => walk_at "cmp"))
  | (refine' ev_tup ?a; (case a => walk_at "args"))
  | (refine' ev_lst ?a; (case a => walk_at "args"))
  | (refine' e_int (by assumption) ?a (by assumption); (case a => walk_at "args"))
  | (refine' e_abs (by assumption) ?a (by assumption); (case a => walk_at "args"))
  | (refine' e_max (by assumption) ?a (by assumption); (case a => walk_at "args"))
  | (refine' e_min (by assumption) ?a (by assumption); (case a => walk_at "args"))
  | (refine' e_lenL (by assumption) ?a (by assumption); (case a => walk_at "args"))
  | (refine' e_lenT (by assumption) ?a (by assumption); (case a => walk_at "args"))
  | (refine' e_intB (by assumption) ?a (by assumption); (case a => walk_at "args"))
  | (refine' ev_pure (by assumption) (by assumption) (by decide) ?a ?g; (case a => walk_at "args"); (case g => walk_at "gr"))
  | (refine' ev_ix ?a ?b ?c; (case a => walk_at "ev"); (case b => walk_at "ev"); (case c => walk_at "idx"))
  | (refine' ev_cutL (by assumption) ?a ?b ?c; (case a => walk_at "ev"); (case b => walk_at "eo"); (case c => walk_at "eo"))
  | (refine' ev_cutT (by assumption) ?a ?b ?c; (case a => walk_at "ev"); (case b => walk_at "eo"); (case c => walk_at "eo"))
  | (refine' ev_not ?a; (case a => walk_at "ev"))
  | (refine' ev_neg ?a; (case a => walk_at "ev")))
local macro_rules | `(tactic| walk_at "var") => `(tactic| first
  | exact ev_var (by assumption) 0 rfl rfl
  | exact ev_var (by assumption) 1 rfl rfl
  | exact ev_var (by assumption) 2 rfl rfl
  | exact ev_var (by assumption) 3 rfl rfl
  | exact ev_var (by assumption) 4 rfl rfl
  | exact ev_var (by assumption) 5 rfl rfl
  | exact ev_var (by assumption) 6 rfl rfl
  | exact ev_var (by assumption) 7 rfl rfl
  | exact ev_var (by assumption) 8 rfl rfl
  | exact ev_var (by assumption) 9 rfl rfl
  | exact ev_var (by assumption) 10 rfl rfl
  | exact ev_var (by assumption) 11 rfl rfl
  | exact ev_raw (by assumption) 0 rfl rfl
  | exact ev_raw (by assumption) 1 rfl rfl
  | exact ev_raw (by assumption) 2 rfl rfl)
local macro_rules | `(tactic| walk_at "args") => `(tactic| first
  | exact a_nil
  | (refine' a_cons ?h ?t; (case h => walk_at "ev"); (case t => walk_at "args"))
  | (refine' r_cons ?h ?t; (case h => walk_at "ev"); (case t => walk_at "args")))
local macro_rules | `(tactic| walk_at "et") => `(tactic| first
  | (refine' et_cmp ?a ?b ?c; (case a => walk_at "ev"); (case b => walk_at "ev"); (case c => walk_at "cmp"))
  | (refine' et_not ?a; (case a => walk_at "et"))
  | (refine' et_val ?a; (case a => walk_at "ev")))
local macro_rules | `(tactic| walk_at "eo") => `(tactic| first
  | exact eo_none
  | (refine' eo_some ?a; (case a => walk_at "ev")))
local macro_rules | `(tactic| walk_at "bin") => `(tactic| first
  | with_reducible exact b_add
  | with_reducible exact b_sub
  | ((with_reducible refine b_mul ?_); first | exact Or.inr ⟨by decide, by decide⟩ | exact Or.inl ⟨by decide, by decide⟩ | exact Or.inl ⟨by omega, by omega⟩)
  | ((with_reducible refine b_mod ?_); first | decide | omega)
  | ((with_reducible refine b_div ?_); assumption)
  | ((with_reducible refine b_pow ?_); exact ⟨by decide, by decide, by decide⟩)
  | ((with_reducible refine b_cat ?_); exact sz_small (by simp only [List.length_cons, List.length_nil, List.length_append]; omega))
  | ((with_reducible refine b_catT (by assumption) ?_); exact sz_small (by simp only [List.length_cons, List.length_nil, List.length_append]; omega)))
local macro_rules | `(tactic| walk_at "cmp") => `(tactic| first
  | with_reducible exact b_lt
  | with_reducible exact b_le
  | with_reducible exact b_gt
  | with_reducible exact b_ge
  | with_reducible exact b_eqI
  | with_reducible exact b_eqS
  | with_reducible exact b_neI
  | with_reducible exact b_neS
  | with_reducible exact b_isN
  | with_reducible exact b_notN
  | ((with_reducible refine n_eq (by assumption) ?_ ?_) <;> (walk_at "nice"))
  | ((with_reducible refine n_ne (by assumption) ?_ ?_) <;> (walk_at "nice")))
local macro_rules | `(tactic| walk_at "nice") => `(tactic| first
  | exact Nice.int
  | exact Nice.none
  | exact Nice.bool
  | exact Nice.str (by decide +kernel)
  | assumption
  | (refine Nice.tuple ?_; walk_at "nice")
  | (refine Nice.list ?_; walk_at "nice")
  | exact NiceAll.nil
  | (refine NiceAll.cons ?_ ?_ <;> (walk_at "nice")))
local macro_rules | `(tactic| walk_at "idx") => `(tactic| first
  | exact i_list (by assumption) rfl
  | exact i_tup (by assumption) rfl)
local macro_rules | `(tactic| walk_at "gr") => `(tactic| first
  | exact ⟨_, rfl, rfl⟩
  | exact ⟨_, rfl, rfl, by assumption⟩)
local macro_rules | `(tactic| walk_at "tgs") => `(tactic| first
  | exact tgs_nil
  | (refine' tgs_cons ?h ?t; (case h => walk_at "tg"); (case t => walk_at "tgs")))
local macro_rules | `(tactic| walk_at "tg") => `(tactic| first
  | exact tg_name (by assumption) 0 rfl
  | exact tg_name (by assumption) 1 rfl
  | exact tg_name (by assumption) 2 rfl
  | exact tg_name (by assumption) 3 rfl
  | exact tg_name (by assumption) 4 rfl
  | exact tg_name (by assumption) 5 rfl
  | exact tg_name (by assumption) 6 rfl
  | exact tg_name (by assumption) 7 rfl
  | exact tg_name (by assumption) 8 rfl
  | exact tg_name (by assumption) 9 rfl)
local macro_rules | `(tactic| walk_at "fls") => `(tactic| first
  | exact ne_self
  | exact eqv_ne (n := 20) (by walk_at "nice") rfl)
/-! ## bounds -/
def badB : List PyData := [.none, .list [], .list [.int 1], .tuple [.int 0, .int 0], .int 0, .str "0", .list [.int 0, .bool true], .list [.int 0, .int 3, .int 2], .dict [(.int 0, .int 1)]]
def grAb (ds : List PyData) (r : PyData) : Prop := ∃ d, ds = [d] ∧ d ∈ badB ∧ r = .bool false
def PreCb (ds : List PyData) : Prop := ∃ d, ds = [d] ∧ d ∈ badB
def ExCb (cB : Addr) (_ : List PyData) (cls : Value) (fs : XD) : Prop := cls = .ref cB ∧ fs = []
-- thing bound low high



theorem scAreB : FnScope ["thing", "bound", "low", "high"] ["thing"] (defScope sAreB) := ⟨rfl, rfl, rfl, by decide +kernel, rfl, by decide +kernel, by decide +kernel⟩
section
variable {P : Program} {w : World} {K : PySem.W.Frag} {mg : Str → Option Value} {base : Heap} {f : Addr} {fd : FuncData} {cS cM cB : Addr}
theorem ok_areB (Fu : Fun K "_are_bounds" "_are_bounds" sAreB f fd) (oC : Own P w K mg base "is_count" 2 ["thing"] (spF K grCnt)) (mIsi : mg "isinstance" = none) (mTuple : mg "tuple" = none) (mList : mg "list" = none) (mLen : mg "len" = none) (mAll : mg "all" = none) (mZip : mg "zip" = none) : FnG P w K mg base 3 f fd ["thing"] (spF K grAb) := by
  refine fn_pure Fu scAreB (fun ds r ⟨_, e, _⟩ => by rw [e]; rfl) ?_
  intro cdv A fr s H E W ds r fm ⟨x, e, hx, er⟩
  subst e er
  simp only [badB, List.mem_cons, List.not_mem_nil, or_false] at hx
  rcases hx with rfl | rfl | rfl | rfl | rfl | rfl | rfl | rfl | rfl
  · exact bd_if1 (t := true) (T1.is (et_or2 (c := true) (d := true) (T1.is (et_not (et_val (E1.is (r' := .dat (.bool false)) (ev_isi2 fm (ev_var fm 0 rfl rfl) mIsi mList mTuple kit_list kit_tuple) rfl))) rfl) (fun h => nomatch h)) rfl) (fun _ => bd_ret1 ev_bl rfl) (fun h => nomatch h)
  · exact bd_if1 (t := true) (T1.is (et_or2 (c := false) (d := true) (T1.is (et_not (et_val (E1.is (r' := .dat (.bool true)) (ev_isi2 fm (ev_var fm 0 rfl rfl) mIsi mList mTuple kit_list kit_tuple) rfl))) rfl) (fun _ => T1.is (et_cmp (e_lenL fm (a_cons (ev_var fm 0 rfl rfl) a_nil) mLen) ev_int b_eqI) rfl)) rfl) (fun _ => bd_ret1 ev_bl rfl) (fun h => nomatch h)
  · refine' bd_if1 (t := false) (T1.is (et_or2 (c := false) (d := false) (T1.is (et_not (et_val (E1.is (r' := .dat (.bool true)) (ev_isi2 fm (ev_var fm 0 rfl rfl) mIsi mList mTuple kit_list kit_tuple) rfl))) rfl) (fun _ => T1.is (et_cmp (e_lenL fm (a_cons (ev_var fm 0 rfl rfl) a_nil) mLen) ev_int b_eqI) rfl)) rfl) (fun h => nomatch h) (fun _ => bd_nil ?r)
    case r =>
    refine' bd_if1 (t := false) (T1.is (et_not (et_val (E1.is (r' := .dat (.bool true)) (e_all fm (bs := ([.int 1] : List PyData).map isCnt) (Ev.imp (ev_lc fm (ds := ([.int 1] : List PyData)) (f := fun _ => true) (R := fun i e => e = .bool (isCnt (([.int 1] : List PyData).getD i .none))) 1 rfl (by decide +kernel) (ev_var fm 0 rfl rfl) (fun _ _ _ _ _ _ _ => if_nil) ?he1 (sz_small (by decide))) ?im1) mAll) ?ev1))) rfl) (fun h => nomatch h) (fun _ => bd_nil ?r2)
    case he1 =>
      intro i d D acc hd _ nD fm
      refine Ev.imp (ev_pure fm oC (by decide) (a_cons (ev_var fm 1 rfl rfl) a_nil) ⟨_, rfl, rfl⟩) fun r e => ⟨_, e, ?_⟩
      rw [List.getD_eq_getElem?_getD, hd]
      rfl
    case im1 =>
      rintro r ⟨es, rfl, pr⟩
      rw [paired_all (g := fun i => .bool (isCnt (([.int 1] : List PyData).getD i .none))) pr, range_map (g := fun d => PyData.bool (isCnt d)), List.map_map]
      rfl
    case ev1 => rfl
    case r2 =>
      exact bd_ret1 (E1.is (r' := .dat (.bool false)) (ev_and2 (c := false) (d := false) (E1.is (ev_cmp (ev_ix (x := .list ([.int 1] : List PyData)) (ev_var fm 0 rfl rfl) ev_int (i_list fm rfl)) ev_int b_eqI) rfl) (fun h => nomatch h)) rfl) rfl
  · refine' bd_if1 (t := false) (T1.is (et_or2 (c := false) (d := false) (T1.is (et_not (et_val (E1.is (r' := .dat (.bool true)) (ev_isi2 fm (ev_var fm 0 rfl rfl) mIsi mList mTuple kit_list kit_tuple) rfl))) rfl) (fun _ => T1.is (et_cmp (e_lenT fm (a_cons (ev_var fm 0 rfl rfl) a_nil) mLen) ev_int b_eqI) rfl)) rfl) (fun h => nomatch h) (fun _ => bd_nil ?r)
    case r =>
    refine' bd_if1 (t := false) (T1.is (et_not (et_val (E1.is (r' := .dat (.bool true)) (e_all fm (bs := ([.int 0, .int 0] : List PyData).map isCnt) (Ev.imp (ev_lcT fm (ds := ([.int 0, .int 0] : List PyData)) (f := fun _ => true) (R := fun i e => e = .bool (isCnt (([.int 0, .int 0] : List PyData).getD i .none))) 1 rfl (by decide +kernel) (ev_var fm 0 rfl rfl) (fun _ _ _ _ _ _ _ => if_nil) ?he2 (sz_small (by decide))) ?im2) mAll) ?ev2))) rfl) (fun h => nomatch h) (fun _ => bd_nil ?r2)
    case he2 =>
      intro i d D acc hd _ nD fm
      refine Ev.imp (ev_pure fm oC (by decide) (a_cons (ev_var fm 1 rfl rfl) a_nil) ⟨_, rfl, rfl⟩) fun r e => ⟨_, e, ?_⟩
      rw [List.getD_eq_getElem?_getD, hd]
      rfl
    case im2 =>
      rintro r ⟨es, rfl, pr⟩
      rw [paired_all (g := fun i => .bool (isCnt (([.int 0, .int 0] : List PyData).getD i .none))) pr, range_map (g := fun d => PyData.bool (isCnt d)), List.map_map]
      rfl
    case ev2 => rfl
    case r2 =>
      refine' bd_ret1 (E1.is (r' := .dat (.bool false)) (ev_and2 (c := true) (d := false) (E1.is (ev_cmp (ev_ix (x := .tuple ([.int 0, .int 0] : List PyData)) (ev_var fm 0 rfl rfl) ev_int (i_tup fm rfl)) ev_int b_eqI) rfl) (fun _ => (E1.is (r' := .dat (.bool false)) (e_all fm (bs := ([false] : List Bool)) (Ev.imp (ev_lcZ fm (ds := ([.int 0, .int 0] : List PyData)) (ds2 := ([.int 0] : List PyData)) (u := .tuple ([.int 0, .int 0] : List PyData)) (v := .tuple ([.int 0] : List PyData)) (f := fun _ => true) (R := fun i e => e = .bool (([false] : List Bool).getD i false)) 2 3 rfl rfl (by decide +kernel) ?za2 (Or.inr ⟨rfl, rfl⟩) mZip (by decide) (fun _ _ _ _ _ _ _ _ _ => if_nil) ?hz2 (by show 1 ≤ sizeLine; decide)) ?iz2) mAll) ?ez2))) rfl) rfl
      case za2 => exact a_cons (ev_var fm 0 rfl rfl) (a_cons (E1.is (r' := .dat (.tuple ([.int 0] : List PyData))) (ev_cutT (ds := ([.int 0, .int 0] : List PyData)) fm (ev_var fm 0 rfl rfl) (eo_some ev_int) eo_none) rfl) a_nil)
      case hz2 =>
        intro i a b D acc h1 h2 _ nD fm
        match i, h1, h2 with
        | 0, h1, h2 =>
          cases Option.some.inj h1
          cases Option.some.inj h2
          exact Ev.imp (ev_cmp (ev_var fm 2 rfl rfl) (ev_var fm 3 rfl rfl) b_lt) fun r e => ⟨_, e, rfl⟩
        | i + 1, h1, h2 => exact absurd h2 (by simp)
      case iz2 =>
        rintro r ⟨es, rfl, pr⟩
        rw [paired_all (g := fun i => .bool (([false] : List Bool).getD i false)) pr]
        rfl
      case ez2 => rfl
  · exact bd_if1 (t := true) (T1.is (et_or2 (c := true) (d := true) (T1.is (et_not (et_val (E1.is (r' := .dat (.bool false)) (ev_isi2 fm (ev_var fm 0 rfl rfl) mIsi mList mTuple kit_list kit_tuple) rfl))) rfl) (fun h => nomatch h)) rfl) (fun _ => bd_ret1 ev_bl rfl) (fun h => nomatch h)
  · exact bd_if1 (t := true) (T1.is (et_or2 (c := true) (d := true) (T1.is (et_not (et_val (E1.is (r' := .dat (.bool false)) (ev_isi2 fm (ev_var fm 0 rfl rfl) mIsi mList mTuple kit_list kit_tuple) rfl))) rfl) (fun h => nomatch h)) rfl) (fun _ => bd_ret1 ev_bl rfl) (fun h => nomatch h)
  · refine' bd_if1 (t := false) (T1.is (et_or2 (c := false) (d := false) (T1.is (et_not (et_val (E1.is (r' := .dat (.bool true)) (ev_isi2 fm (ev_var fm 0 rfl rfl) mIsi mList mTuple kit_list kit_tuple) rfl))) rfl) (fun _ => T1.is (et_cmp (e_lenL fm (a_cons (ev_var fm 0 rfl rfl) a_nil) mLen) ev_int b_eqI) rfl)) rfl) (fun h => nomatch h) (fun _ => bd_nil ?r)
    case r =>
    refine' bd_if1 (t := true) (T1.is (et_not (et_val (E1.is (r' := .dat (.bool false)) (e_all fm (bs := ([.int 0, .bool true] : List PyData).map isCnt) (Ev.imp (ev_lc fm (ds := ([.int 0, .bool true] : List PyData)) (f := fun _ => true) (R := fun i e => e = .bool (isCnt (([.int 0, .bool true] : List PyData).getD i .none))) 1 rfl (by decide +kernel) (ev_var fm 0 rfl rfl) (fun _ _ _ _ _ _ _ => if_nil) ?he3 (sz_small (by decide))) ?im3) mAll) ?ev3))) rfl) (fun _ => bd_ret1 ev_bl rfl) (fun h => nomatch h)
    case he3 =>
      intro i d D acc hd _ nD fm
      refine Ev.imp (ev_pure fm oC (by decide) (a_cons (ev_var fm 1 rfl rfl) a_nil) ⟨_, rfl, rfl⟩) fun r e => ⟨_, e, ?_⟩
      rw [List.getD_eq_getElem?_getD, hd]
      rfl
    case im3 =>
      rintro r ⟨es, rfl, pr⟩
      rw [paired_all (g := fun i => .bool (isCnt (([.int 0, .bool true] : List PyData).getD i .none))) pr, range_map (g := fun d => PyData.bool (isCnt d)), List.map_map]
      rfl
    case ev3 => rfl
  · refine' bd_if1 (t := false) (T1.is (et_or2 (c := false) (d := false) (T1.is (et_not (et_val (E1.is (r' := .dat (.bool true)) (ev_isi2 fm (ev_var fm 0 rfl rfl) mIsi mList mTuple kit_list kit_tuple) rfl))) rfl) (fun _ => T1.is (et_cmp (e_lenL fm (a_cons (ev_var fm 0 rfl rfl) a_nil) mLen) ev_int b_eqI) rfl)) rfl) (fun h => nomatch h) (fun _ => bd_nil ?r)
    case r =>
    refine' bd_if1 (t := false) (T1.is (et_not (et_val (E1.is (r' := .dat (.bool true)) (e_all fm (bs := ([.int 0, .int 3, .int 2] : List PyData).map isCnt) (Ev.imp (ev_lc fm (ds := ([.int 0, .int 3, .int 2] : List PyData)) (f := fun _ => true) (R := fun i e => e = .bool (isCnt (([.int 0, .int 3, .int 2] : List PyData).getD i .none))) 1 rfl (by decide +kernel) (ev_var fm 0 rfl rfl) (fun _ _ _ _ _ _ _ => if_nil) ?he4 (sz_small (by decide))) ?im4) mAll) ?ev4))) rfl) (fun h => nomatch h) (fun _ => bd_nil ?r2)
    case he4 =>
      intro i d D acc hd _ nD fm
      refine Ev.imp (ev_pure fm oC (by decide) (a_cons (ev_var fm 1 rfl rfl) a_nil) ⟨_, rfl, rfl⟩) fun r e => ⟨_, e, ?_⟩
      rw [List.getD_eq_getElem?_getD, hd]
      rfl
    case im4 =>
      rintro r ⟨es, rfl, pr⟩
      rw [paired_all (g := fun i => .bool (isCnt (([.int 0, .int 3, .int 2] : List PyData).getD i .none))) pr, range_map (g := fun d => PyData.bool (isCnt d)), List.map_map]
      rfl
    case ev4 => rfl
    case r2 =>
      refine' bd_ret1 (E1.is (r' := .dat (.bool false)) (ev_and2 (c := true) (d := false) (E1.is (ev_cmp (ev_ix (x := .list ([.int 0, .int 3, .int 2] : List PyData)) (ev_var fm 0 rfl rfl) ev_int (i_list fm rfl)) ev_int b_eqI) rfl) (fun _ => (E1.is (r' := .dat (.bool false)) (e_all fm (bs := ([true, false] : List Bool)) (Ev.imp (ev_lcZ fm (ds := ([.int 0, .int 3, .int 2] : List PyData)) (ds2 := ([.int 3, .int 2] : List PyData)) (u := .list ([.int 0, .int 3, .int 2] : List PyData)) (v := .list ([.int 3, .int 2] : List PyData)) (f := fun _ => true) (R := fun i e => e = .bool (([true, false] : List Bool).getD i false)) 2 3 rfl rfl (by decide +kernel) ?za4 (Or.inl ⟨rfl, rfl⟩) mZip (by decide) (fun _ _ _ _ _ _ _ _ _ => if_nil) ?hz4 (by show 2 ≤ sizeLine; decide)) ?iz4) mAll) ?ez4))) rfl) rfl
      case za4 => exact a_cons (ev_var fm 0 rfl rfl) (a_cons (E1.is (r' := .dat (.list ([.int 3, .int 2] : List PyData))) (ev_cutL (ds := ([.int 0, .int 3, .int 2] : List PyData)) fm (ev_var fm 0 rfl rfl) (eo_some ev_int) eo_none) rfl) a_nil)
      case hz4 =>
        intro i a b D acc h1 h2 _ nD fm
        match i, h1, h2 with
        | 0, h1, h2 =>
          cases Option.some.inj h1
          cases Option.some.inj h2
          exact Ev.imp (ev_cmp (ev_var fm 2 rfl rfl) (ev_var fm 3 rfl rfl) b_lt) fun r e => ⟨_, e, rfl⟩
        | 1, h1, h2 =>
          cases Option.some.inj h1
          cases Option.some.inj h2
          exact Ev.imp (ev_cmp (ev_var fm 2 rfl rfl) (ev_var fm 3 rfl rfl) b_lt) fun r e => ⟨_, e, rfl⟩
        | i + 2, h1, h2 => exact absurd h2 (by simp)
      case iz4 =>
        rintro r ⟨es, rfl, pr⟩
        rw [paired_all (g := fun i => .bool (([true, false] : List Bool).getD i false)) pr]
        rfl
      case ez4 => rfl
  · exact bd_if1 (t := true) (T1.is (et_or2 (c := true) (d := true) (T1.is (et_not (et_val (E1.is (r' := .dat (.bool false)) (ev_isi2 fm (ev_var fm 0 rfl rfl) mIsi mList mTuple kit_list kit_tuple) rfl))) rfl) (fun h => nomatch h)) rfl) (fun _ => bd_ret1 ev_bl rfl) (fun h => nomatch h)
end
end K36

set_option Elab.async false
set_option linter.all false
set_option maxRecDepth 100000
set_option maxHeartbeats 1000000
namespace K36
open PySem PySem.Spec PyProof.Rows L2 Cr
local macro_rules | `(tactic| walk_at "ev") => `(tactic| first
  | exact ev_int
  | exact ev_str
  | exact ev_non
  | exact ev_bl
  | (walk_at "var")
  | (refine' ev_op ?a ?b ?c; (case a => walk_at "ev"); (case b => walk_at "ev"); (case c => walk_at "bin"))
  | (refine' ev_cmp ?a ?b ?c; (case a => walk_at "ev"); (case b => walk_at "ev"); (case c => walk_at "cmp"))
  | (refine' ev_tup ?a; (case a => walk_at "args"))
  | (refine' ev_lst ?a; (case a => walk_at "args"))
  | (refine' e_int (by assumption) ?a (by assumption); (case a => walk_at "args"))
  | (refine' e_abs (by assumption) ?a (by assumption); (case a => walk_at "args"))
  | (refine' e_max (by assumption) ?a (by assumption); (case a => walk_at "args"))
  | (refine' e_min (by assumption) ?a (by assumption); (case a => walk_at "args"))
  | (refine' e_lenL (by assumption) ?a (by assumption); (case a => walk_at "args"))
  | (refine' e_lenT (by assumption) ?a (by assumption); (case a => walk_at "args"))
  | (refine' e_intB (by assumption) ?a (by assumption); (case a => walk_at "args"))
  | (refine' ev_pure (by assumption) (by assumption) (by decide) ?a ?g; (case a => walk_at "args"); (case g => walk_at "gr"))
  | (refine' ev_ix ?a ?b ?c; (case a => walk_at "ev"); (case b => walk_at "ev"); (case c => walk_at "idx"))
  | (refine' ev_cutL (by assumption) ?a ?b ?c; (case a => walk_at "ev"); (case b => walk_at "eo"); (case c => walk_at "eo"))
  | (refine' ev_cutT (by assumption) ?a ?b ?c; (case a => walk_at "ev"); (case b => walk_at "eo"); (case c => walk_at "eo"))
  | (refine' ev_not ?a; (case a => walk_at "ev"))
  | (refine' ev_neg ?a; (case a => walk_at "ev")))
local macro_rules | `(tactic| walk_at "var") => `(tactic| first
  | exact ev_var (by assumption) 0 rfl rfl
  | exact ev_var (by assumption) 1 rfl rfl
  | exact ev_var (by assumption) 2 rfl rfl
  | exact ev_var (by assumption) 3 rfl rfl
  | exact ev_var (by assumption) 4 rfl rfl
  | exact ev_var (by assumption) 5 rfl rfl
  | exact ev_var (by assumption) 6 rfl rfl
  | exact ev_var (by assumption) 7 rfl rfl
  | exact ev_var (by assumption) 8 rfl rfl
  | exact ev_var (by assumption) 9 rfl rfl
  | exact ev_var (by assumption) 10 rfl rfl
  | exact ev_var (by assumption) 11 rfl rfl
  | exact ev_raw (by assumption) 0 rfl rfl
  | exact ev_raw (by assumption) 1 rfl rfl
  | exact ev_raw (by assumption) 2 rfl rfl)
local macro_rules | `(tactic| walk_at "args") => `(tactic| first
  | exact a_nil
  | (refine' a_cons ?h ?t; (case h => walk_at "ev"); (case t => walk_at "args"))
  | (refine' r_cons ?h ?t; (case h => walk_at "ev"); (case t => walk_at "args")))
local macro_rules | `(tactic| walk_at "et") => `(tactic| first
  | (refine' et_cmp ?a ?b ?c; (case a => walk_at "ev"); (case b => walk_at "ev"); (case c => walk_at "cmp"))
  | (refine' et_not ?a; (case a => walk_at "et"))
  | (refine' et_val ?a; (case a => walk_at "ev")))
local macro_rules | `(tactic| walk_at "eo") => `(tactic| first
  | exact eo_none
  | (refine' eo_some ?a; (case a => walk_at "ev")))
local macro_rules | `(tactic| walk_at "bin") => `(tactic| first
  | with_reducible exact b_add
  | with_reducible exact b_sub
  | ((with_reducible refine b_mul ?_); first | exact Or.inr ⟨by decide, by decide⟩ | exact Or.inl ⟨by decide, by decide⟩ | exact Or.inl ⟨by omega, by omega⟩)
  | ((with_reducible refine b_mod ?_); first | decide | omega)
  | ((with_reducible refine b_div ?_); assumption)
  | ((with_reducible refine b_pow ?_); exact ⟨by decide, by decide, by decide⟩)
  | ((with_reducible refine b_cat ?_); exact sz_small (by simp only [List.length_cons, List.length_nil, List.length_append]; omega))
  | ((with_reducible refine b_catT (by assumption) ?_); exact sz_small (by simp only [List.length_cons, List.length_nil, List.length_append]; omega)))
local macro_rules | `(tactic| walk_at "cmp") => `(tactic| first
  | with_reducible exact b_lt
  | with_reducible exact b_le
  | with_reducible exact b_gt
  | with_reducible exact b_ge
  | with_reducible exact b_eqI
  | with_reducible exact b_eqS
  | with_reducible exact b_neI
  | with_reducible exact b_neS
  | with_reducible exact b_isN
  | with_reducible exact b_notN
  | ((with_reducible refine n_eq (by assumption) ?_ ?_) <;> (walk_at "nice"))
  | ((with_reducible refine n_ne (by assumption) ?_ ?_) <;> (walk_at "nice")))
local macro_rules | `(tactic| walk_at "nice") => `(tactic| first
  | exact Nice.int
  | exact Nice.none
  | exact Nice.bool
  | exact Nice.str (by decide +kernel)
  | assumption
  | (refine Nice.tuple ?_; walk_at "nice")
  | (refine Nice.list ?_; walk_at "nice")
  | exact NiceAll.nil
  | (refine NiceAll.cons ?_ ?_ <;> (walk_at "nice")))
local macro_rules | `(tactic| walk_at "idx") => `(tactic| first
  | exact i_list (by assumption) rfl
  | exact i_tup (by assumption) rfl)
local macro_rules | `(tactic| walk_at "gr") => `(tactic| first
  | exact ⟨_, rfl, rfl⟩
  | exact ⟨_, rfl, rfl, by assumption⟩)
local macro_rules | `(tactic| walk_at "tgs") => `(tactic| first
  | exact tgs_nil
  | (refine' tgs_cons ?h ?t; (case h => walk_at "tg"); (case t => walk_at "tgs")))
local macro_rules | `(tactic| walk_at "tg") => `(tactic| first
  | exact tg_name (by assumption) 0 rfl
  | exact tg_name (by assumption) 1 rfl
  | exact tg_name (by assumption) 2 rfl
  | exact tg_name (by assumption) 3 rfl
  | exact tg_name (by assumption) 4 rfl
  | exact tg_name (by assumption) 5 rfl
  | exact tg_name (by assumption) 6 rfl
  | exact tg_name (by assumption) 7 rfl
  | exact tg_name (by assumption) 8 rfl
  | exact tg_name (by assumption) 9 rfl)
local macro_rules | `(tactic| walk_at "fls") => `(tactic| first
  | exact ne_self
  | exact eqv_ne (n := 20) (by walk_at "nice") rfl)
def PreSs (ds : List PyData) : Prop := ∃ s b, ds = [s, b] ∧ okD s = true ∧ small s ∧ (isSenders s = false ∨ b ∈ badB)
def ExSs (cS cB : Addr) (ds : List PyData) (cls : Value) (fs : XD) : Prop := ∃ s b, ds = [s, b] ∧ ((isSenders s = false ∧ cls = .ref cS ∧ fs = []) ∨ (isSenders s = true ∧ cls = .ref cB ∧ fs = []))
-- thing



theorem scChkB : FnScope ["thing"] ["thing"] (defScope sChkB) := ⟨rfl, rfl, rfl, by decide +kernel, rfl, by decide +kernel, by decide +kernel⟩
section
variable {P : Program} {w : World} {K : PySem.W.Frag} {mg : Str → Option Value} {base : Heap} {f : Addr} {fd : FuncData} {cS cM cB : Addr}
theorem ok_chkB (Fu : Fun K "check_bounds" "check_bounds" sChkB f fd) (T : ExcC K mg "NoBounds" cB) (oAb : Own P w K mg base "_are_bounds" 3 ["thing"] (spF K grAb)) : FnX P w K mg base 4 f fd ["thing"] (spX K PreCb (fun _ _ => False) (ExCb cB)) := by
  refine fn_raises Fu scChkB (fun ds ⟨_, e, _⟩ => by rw [e]; rfl) ?_
  intro cdv A fr s H E W ds fm tk ⟨x, e, hx⟩
  subst e
  refine' bde_if (t := true) (T1.is (et_not (et_val (ev_pure fm oAb (by decide) (a_cons (ev_var fm 0 rfl rfl) a_nil) ⟨_, rfl, hx, rfl⟩))) rfl) (fun _ => ?a) (fun h => nomatch h)
  case a => exact bde_raise0 fm tk T ⟨rfl, rfl⟩ trivial
-- senders bounds values grounds pairs found sender meant units
theorem scStarts : FnScope ["senders", "bounds", "values", "grounds", "pairs", "found", "sender", "meant", "units"] ["senders", "bounds"] (defScope sStarts) := ⟨rfl, rfl, rfl, by decide +kernel, rfl, by decide +kernel, by decide +kernel⟩
theorem ok_starts (Fu : Fun K "starts" "starts" sStarts f fd) (oCs : OwnX P w K mg base "check_senders" 2 ["thing"] (spX K PreCs FnCs (ExCs cS))) (oCb : OwnX P w K mg base "check_bounds" 4 ["thing"] (spX K PreCb (fun _ _ => False) (ExCb cB))) : FnX P w K mg base 5 f fd ["senders", "bounds"] (spX K PreSs (fun _ _ => False) (ExSs cS cB)) := by
  refine fn_raises Fu scStarts (fun ds ⟨_, _, e, _⟩ => by rw [e]; rfl) ?_
  intro cdv A fr s H E W ds fm tk ⟨x, b, e, ok, sm, hb⟩
  subst e
  refine' bde_call fm tk oCs (by decide) (a_cons (ev_var fm 0 rfl rfl) a_nil) ⟨_, rfl, ok, sm⟩ ?n ?x
  case x =>
    rintro cls fs ⟨d, e, h, h2, h3⟩
    cases e
    exact ⟨⟨x, b, rfl, Or.inl ⟨h, h2, h3⟩⟩, trivial⟩
  case n =>
    rintro r ⟨d, e, h⟩
    cases e
    have hb2 : b ∈ badB := hb.elim (fun z => absurd h (by rw [z]; exact Bool.false_ne_true)) id
    refine' bde_call fm tk oCb (by decide) (a_cons (ev_var fm 1 rfl rfl) a_nil) ⟨_, rfl, hb2⟩ (fun r h => h.elim) ?x2
    case x2 =>
      rintro cls fs ⟨h2, h3⟩
      exact ⟨⟨x, b, rfl, Or.inr ⟨h, h2, h3⟩⟩, trivial⟩
/-! ## which error comes -/
def breakOf : PyData → Str
  | .tuple [_, .str z] => z
  | _ => ""
def sentW (d : PyData) (m u : Int) : PyData := if isSender d = true then (if canS (breakOf d) m u = true then .none else .str "fit") else .str "sender"
def startsW (s : PyData) : PyData := if isSenders s = true then .str "bounds" else .str "sender"
def grWord (ds : List PyData) (r : PyData) : Prop := ∃ w a b c, ds = [.int w, a, b, c] ∧ okD a = true ∧ ShowsO (.tuple [a, b, c]) ∧ ((w = 0 ∧ ∃ m u, b = .int m ∧ c = .int u ∧ r = sentW a m u) ∨ (w = 1 ∧ small a ∧ (isSenders a = false ∨ b ∈ badB) ∧ r = startsW a))
theorem sd_len {W : Wd} {K : PySem.W.Frag} {H : Hp} : ∀ {σ : L2.St} {env : List Sl}, Sd W K H σ env → σ.length = env.length
  | [], [], _ => rfl
  | _ :: _, _ :: _, ⟨_, t⟩ => congrArg (· + 1) (sd_len t)
  | [], _ :: _, h => h.elim
  | _ :: _, [], h => h.elim
def tsW (x : Str) : Addr → Value → Option Addr → TS := fun _ _ _ => tAsg (tC (.str x)) (gName 4)
def ExW (cS cB cM : Addr) (r : PyData) (cls : Value) (fs : XD) : Prop := fs = [] ∧ ((cls = .ref cS ∧ r = .str "sender") ∨ (cls = .ref cB ∧ r = .str "bounds") ∨ (cls = .ref cM ∧ r = .str "fit"))
structure Exms (K : PySem.W.Frag) (cS cB cM : Addr) : Prop where
  ss : PySem.W.exmOne K (.ref cS) (.ref cS) = some true
  bs : PySem.W.exmOne K (.ref cB) (.ref cS) = some false
  bb : PySem.W.exmOne K (.ref cB) (.ref cB) = some true
  ms : PySem.W.exmOne K (.ref cM) (.ref cS) = some false
  mb : PySem.W.exmOne K (.ref cM) (.ref cB) = some false
  mm : PySem.W.exmOne K (.ref cM) (.ref cM) = some true
-- way one other third caught before error

theorem scWord : FnScope ["way", "one", "other", "third", "caught", "before", "error"] ["way", "one", "other", "third"] (defScope sWord) := ⟨rfl, rfl, rfl, by decide +kernel, rfl, by decide +kernel, by decide +kernel⟩
theorem ok_word (Fu : Fun K "_law_word" "_law_word" sWord f fd) (TS : ExcC K mg "NoSender" cS) (TB : ExcC K mg "NoBounds" cB) (TM : ExcC K mg "Mismatch" cM) (ex : Exms K cS cB cM)
    (oSt : OwnX P w K mg base "sent" 2 ["sender", "meant", "units"] (spX K PreSt FnSt (ExSt cS cM))) (oSs : OwnX P w K mg base "starts" 5 ["senders", "bounds"] (spX K PreSs (fun _ _ => False) (ExSs cS cB))) (hs : (base.get? sysModules).isSome = true) (mRepr : mg "repr" = none) : FnG P w K mg base 6 f fd ["way", "one", "other", "third"] (spF K grWord) := by
  refine fn_pure Fu scWord (fun ds r ⟨_, _, _, _, e, _⟩ => by rw [e]; rfl) ?_
  intro cdv A fr s H E W ds r fm ⟨w0, a, b, c, e, oa, sh, hw⟩
  subst e
  refine' bd_par fm 4 5 rfl rfl (by decide) (a_cons ev_non (a_cons (e_reprO fm hs sh (a_cons (ev_tup (a_cons (ev_var fm 1 rfl rfl) (a_cons (ev_var fm 2 rfl rfl) (a_cons (ev_var fm 3 rfl rfl) a_nil)))) a_nil) mRepr) a_nil)) ?_
  rintro _ rfl
  refine ⟨_, _, rfl, ?_⟩
  refine bd_env (env' := [.dat (.int w0), .dat a, .dat b, .dat c, .dat .none, .dat (.str (PyData.tuple [a, b, c]).shown), .any]) (by kernel_rfl) ?_
  have fm0 := fm
  refine' bd_try fm [(.ref cS, 6, tsW "sender"), (.ref cB, 6, tsW "bounds"), (.ref cM, 6, tsW "fit")] (ExW cS cB cM r) (fun e => e = [.dat (.int w0), .dat a, .dat b, .dat c, .dat .none, .dat (.str (PyData.tuple [a, b, c]).shown), .any]) ?hh ?hb ?hc
  case hh =>
    intro z
    have nd : (["way", "one", "other", "third", "caught", "before", "error"] : List Str).Nodup := by decide
    refine .cons rfl (lcl_of (fm.es z) (by decide +kernel)) ⟨gl_of (fm.es z) (by decide +kernel), by decide, Or.inl TS.g⟩ (fun ax oe cls d pn hz hf => ?_) (.cons rfl (lcl_of (fm.es z) (by decide +kernel)) ⟨gl_of (fm.es z) (by decide +kernel), by decide, Or.inl TB.g⟩ (fun ax oe cls d pn hz hf => ?_) (.cons rfl (lcl_of (fm.es z) (by decide +kernel)) ⟨gl_of (fm.es z) (by decide +kernel), by decide, Or.inl TM.g⟩ (fun ax oe cls d pn hz hf => ?_) .nil))
    · exact pss_one (ps_set nd rfl (loc_of (fm.es z) (by decide +kernel)) pe_str)
    · exact pss_one (ps_set nd rfl (loc_of (fm.es z) (by decide +kernel)) pe_str)
    · exact pss_one (ps_set nd rfl (loc_of (fm.es z) (by decide +kernel)) pe_str)
  case hb =>
    intro wi ι' F' fm tk
    have done : r = .none → Bd (DF P w K mg base ["way", "one", "other", "third", "caught", "before", "error"] "_law_word" (defScope sWord) f cdv A fr s H E) W K ((defBody sWord).drop 2) [.dat (.int w0), .dat a, .dat b, .dat c, .dat .none, .dat (.str (PyData.tuple [a, b, c]).shown), .any] { nx := fun _ => r = .none, rt := fun z => z = .dat r } := fun er => by
      subst er
      exact bd_ret1 (r := .dat .none) (ev_if (R := fun z => z = .dat .none) (T1.is (et_cmp (e_reprO fm0 hs sh (a_cons (ev_tup (a_cons (ev_var fm0 1 rfl rfl) (a_cons (ev_var fm0 2 rfl rfl) (a_cons (ev_var fm0 3 rfl rfl) a_nil)))) a_nil) mRepr) (ev_var fm0 5 rfl rfl) b_eqS) (decide_eq_true rfl)) (fun _ => ev_var fm0 4 rfl rfl) (fun h => absurd h (by decide))) rfl
    rcases hw with ⟨rfl, m, u, rfl, rfl, er⟩ | ⟨rfl, sm, hb, er⟩
    · refine' bde_if (t := true) (T1.is (et_cmp (ev_var fm 0 rfl rfl) ev_int b_eqI) rfl) (fun _ => ?st) (fun h => nomatch h)
      case st =>
        refine' bde_call fm tk oSt (by decide) (a_cons (ev_var fm 1 rfl rfl) (a_cons (ev_var fm 2 rfl rfl) (a_cons (ev_var fm 3 rfl rfl) a_nil))) ⟨a, m, u, rfl, oa⟩ ?n ?x
        case n =>
          rintro r' ⟨y, z, m', u', e, mz, hc⟩
          cases e
          refine bde_nil (bde_nil (done ?_))
          rw [er]
          unfold sentW breakOf
          rw [if_pos (by show (strIn (.str y.s) ways && strIn (.str z) breaks) = true; rw [ways_has]; exact List.any_eq_true.mpr ⟨z, mz, beq_self_eq_true z⟩), if_pos hc]
        case x =>
          rintro cls fs ⟨d, m', u', e, h⟩
          cases e
          refine ⟨?_, rfl⟩
          rcases h with ⟨h1, h2, h3⟩ | ⟨y, z, rfl, mz, hc, h2, h3⟩
          · exact ⟨h3, Or.inl ⟨h2, by rw [er]; unfold sentW; rw [if_neg (by rw [h1]; exact Bool.false_ne_true)]⟩⟩
          · refine ⟨h3, Or.inr (Or.inr ⟨h2, ?_⟩)⟩
            rw [er]
            unfold sentW breakOf
            rw [if_pos (by show (strIn (.str y.s) ways && strIn (.str z) breaks) = true; rw [ways_has]; exact List.any_eq_true.mpr ⟨z, mz, beq_self_eq_true z⟩), if_neg (by rw [hc]; exact Bool.false_ne_true)]
    · refine' bde_if (t := false) (T1.is (et_cmp (ev_var fm 0 rfl rfl) ev_int b_eqI) rfl) (fun h => nomatch h) (fun _ => ?ss)
      case ss =>
        refine' bde_call fm tk oSs (by decide) (a_cons (ev_var fm 1 rfl rfl) (a_cons (ev_var fm 2 rfl rfl) a_nil)) ⟨a, b, rfl, oa, sm, hb⟩ (fun r h => h.elim) ?x
        case x =>
          rintro cls fs ⟨s', b', e, h⟩
          cases e
          refine ⟨?_, rfl⟩
          rcases h with ⟨h1, h2, h3⟩ | ⟨h1, h2, h3⟩
          · exact ⟨h3, Or.inl ⟨h2, by rw [er]; unfold startsW; rw [if_neg (by rw [h1]; exact Bool.false_ne_true)]⟩⟩
          · exact ⟨h3, Or.inr (Or.inl ⟨h2, by rw [er]; unfold startsW; rw [if_pos h1]⟩)⟩
  case hc =>
    rintro cls fs d σ' H' env' D' ⟨rfl, hcl⟩ rfl hix iW sd gd
    have len : σ'.length = 7 := sd_len sd
    have sd6 := fun ax : Addr => Sd.set (v := .ref ax) (s := .any) trivial 6 sd
    have fin : ∀ (x : Str), r = .str x → ∀ ax : Addr, H' ax = none → tsW x ax cls d (slotGone D' 6) (σ'.set 6 (some (.ref ax))) H' := fun x er ax _ => by
      refine gd.nx _ _ _ (Wx.refl _ H') iW (Sd.wipe1 6 (Sd.set (Dn.dv (.str x)) 4 (sd6 ax))) ?_
      subst er
      refine bd_env (env' := [.dat (.int w0), .dat a, .dat b, .dat c, .dat (.str x), .dat (.str (PyData.tuple [a, b, c]).shown), .any]) (by kernel_rfl) ?_
      exact bd_ret1 (r := .dat (.str x)) (ev_if (R := fun z => z = .dat (.str x)) (T1.is (et_cmp (e_reprO fm0 hs sh (a_cons (ev_tup (a_cons (ev_var fm0 1 rfl rfl) (a_cons (ev_var fm0 2 rfl rfl) (a_cons (ev_var fm0 3 rfl rfl) a_nil)))) a_nil) mRepr) (ev_var fm0 5 rfl rfl) b_eqS) (decide_eq_true rfl)) (fun _ => ev_var fm0 4 rfl rfl) (fun h => absurd h (by decide))) rfl
    rcases hcl with ⟨rfl, er⟩ | ⟨rfl, er⟩ | ⟨rfl, er⟩
    · exact ⟨true, ex.ss, fun _ ax hax => fin _ er ax hax, (fun z => nomatch z)⟩
    · exact ⟨false, ex.bs, (fun z => nomatch z), fun _ => ⟨true, ex.bb, fun _ ax hax => fin _ er ax hax, (fun z => nomatch z)⟩⟩
    · exact ⟨false, ex.ms, (fun z => nomatch z), fun _ => ⟨false, ex.mb, (fun z => nomatch z), fun _ => ⟨true, ex.mm, fun _ ax hax => fin _ er ax hax, (fun z => nomatch z)⟩⟩⟩
end
end K36

set_option Elab.async false
set_option linter.all false
set_option maxRecDepth 100000
set_option maxHeartbeats 1000000
namespace K36
open PySem PySem.Spec PyProof.Rows L2 Cr
local macro_rules | `(tactic| walk_at "ev") => `(tactic| first
  | exact ev_int
  | exact ev_str
  | exact ev_non
  | exact ev_bl
  | (walk_at "var")
  | (refine' ev_op ?a ?b ?c; (case a => walk_at "ev"); (case b => walk_at "ev"); (case c => walk_at "bin"))
  | (refine' ev_cmp ?a ?b ?c; (case a => walk_at "ev"); (case b => walk_at "ev"); (case c => walk_at "cmp"))
  | (refine' ev_tup ?a; (case a => walk_at "args"))
  | (refine' ev_lst ?a; (case a => walk_at "args"))
  | (refine' e_int (by assumption) ?a (by assumption); (case a => walk_at "args"))
  | (refine' e_abs (by assumption) ?a (by assumption); (case a => walk_at "args"))
  | (refine' e_max (by assumption) ?a (by assumption); (case a => walk_at "args"))
  | (refine' e_min (by assumption) ?a (by assumption); (case a => walk_at "args"))
  | (refine' e_lenL (by assumption) ?a (by assumption); (case a => walk_at "args"))
  | (refine' e_lenT (by assumption) ?a (by assumption); (case a => walk_at "args"))
  | (refine' e_intB (by assumption) ?a (by assumption); (case a => walk_at "args"))
  | (refine' ev_pure (by assumption) (by assumption) (by decide) ?a ?g; (case a => walk_at "args"); (case g => walk_at "gr"))
  | (refine' ev_ix ?a ?b ?c; (case a => walk_at "ev"); (case b => walk_at "ev"); (case c => walk_at "idx"))
  | (refine' ev_cutL (by assumption) ?a ?b ?c; (case a => walk_at "ev"); (case b => walk_at "eo"); (case c => walk_at "eo"))
  | (refine' ev_cutT (by assumption) ?a ?b ?c; (case a => walk_at "ev"); (case b => walk_at "eo"); (case c => walk_at "eo"))
  | (refine' ev_not ?a; (case a => walk_at "ev"))
  | (refine' ev_neg ?a; (case a => walk_at "ev")))
local macro_rules | `(tactic| walk_at "var") => `(tactic| first
  | exact ev_var (by assumption) 0 rfl rfl
  | exact ev_var (by assumption) 1 rfl rfl
  | exact ev_var (by assumption) 2 rfl rfl
  | exact ev_var (by assumption) 3 rfl rfl
  | exact ev_var (by assumption) 4 rfl rfl
  | exact ev_var (by assumption) 5 rfl rfl
  | exact ev_var (by assumption) 6 rfl rfl
  | exact ev_var (by assumption) 7 rfl rfl
  | exact ev_var (by assumption) 8 rfl rfl
  | exact ev_var (by assumption) 9 rfl rfl
  | exact ev_var (by assumption) 10 rfl rfl
  | exact ev_var (by assumption) 11 rfl rfl
  | exact ev_raw (by assumption) 0 rfl rfl
  | exact ev_raw (by assumption) 1 rfl rfl
  | exact ev_raw (by assumption) 2 rfl rfl)
local macro_rules | `(tactic| walk_at "args") => `(tactic| first
  | exact a_nil
  | (refine' a_cons ?h ?t; (case h => walk_at "ev"); (case t => walk_at "args"))
  | (refine' r_cons ?h ?t; (case h => walk_at "ev"); (case t => walk_at "args")))
local macro_rules | `(tactic| walk_at "et") => `(tactic| first
  | (refine' et_cmp ?a ?b ?c; (case a => walk_at "ev"); (case b => walk_at "ev"); (case c => walk_at "cmp"))
  | (refine' et_not ?a; (case a => walk_at "et"))
  | (refine' et_val ?a; (case a => walk_at "ev")))
local macro_rules | `(tactic| walk_at "eo") => `(tactic| first
  | exact eo_none
  | (refine' eo_some ?a; (case a => walk_at "ev")))
local macro_rules | `(tactic| walk_at "bin") => `(tactic| first
  | with_reducible exact b_add
  | with_reducible exact b_sub
  | ((with_reducible refine b_mul ?_); first | exact Or.inr ⟨by decide, by decide⟩ | exact Or.inl ⟨by decide, by decide⟩ | exact Or.inl ⟨by omega, by omega⟩)
  | ((with_reducible refine b_mod ?_); first | decide | omega)
  | ((with_reducible refine b_div ?_); assumption)
  | ((with_reducible refine b_pow ?_); exact ⟨by decide, by decide, by decide⟩)
  | ((with_reducible refine b_cat ?_); exact sz_small (by simp only [List.length_cons, List.length_nil, List.length_append]; omega))
  | ((with_reducible refine b_catT (by assumption) ?_); exact sz_small (by simp only [List.length_cons, List.length_nil, List.length_append]; omega)))
local macro_rules | `(tactic| walk_at "cmp") => `(tactic| first
  | with_reducible exact b_lt
  | with_reducible exact b_le
  | with_reducible exact b_gt
  | with_reducible exact b_ge
  | with_reducible exact b_eqI
  | with_reducible exact b_eqS
  | with_reducible exact b_neI
  | with_reducible exact b_neS
  | with_reducible exact b_isN
  | with_reducible exact b_notN
  | ((with_reducible refine n_eq (by assumption) ?_ ?_) <;> (walk_at "nice"))
  | ((with_reducible refine n_ne (by assumption) ?_ ?_) <;> (walk_at "nice")))
local macro_rules | `(tactic| walk_at "nice") => `(tactic| first
  | exact Nice.int
  | exact Nice.none
  | exact Nice.bool
  | exact Nice.str (by decide +kernel)
  | assumption
  | (refine Nice.tuple ?_; walk_at "nice")
  | (refine Nice.list ?_; walk_at "nice")
  | exact NiceAll.nil
  | (refine NiceAll.cons ?_ ?_ <;> (walk_at "nice")))
local macro_rules | `(tactic| walk_at "idx") => `(tactic| first
  | exact i_list (by assumption) rfl
  | exact i_tup (by assumption) rfl)
local macro_rules | `(tactic| walk_at "gr") => `(tactic| first
  | exact ⟨_, rfl, rfl⟩
  | exact ⟨_, rfl, rfl, by assumption⟩)
local macro_rules | `(tactic| walk_at "tgs") => `(tactic| first
  | exact tgs_nil
  | (refine' tgs_cons ?h ?t; (case h => walk_at "tg"); (case t => walk_at "tgs")))
local macro_rules | `(tactic| walk_at "tg") => `(tactic| first
  | exact tg_name (by assumption) 0 rfl
  | exact tg_name (by assumption) 1 rfl
  | exact tg_name (by assumption) 2 rfl
  | exact tg_name (by assumption) 3 rfl
  | exact tg_name (by assumption) 4 rfl
  | exact tg_name (by assumption) 5 rfl
  | exact tg_name (by assumption) 6 rfl
  | exact tg_name (by assumption) 7 rfl
  | exact tg_name (by assumption) 8 rfl
  | exact tg_name (by assumption) 9 rfl)
local macro_rules | `(tactic| walk_at "fls") => `(tactic| first
  | exact ne_self
  | exact eqv_ne (n := 20) (by walk_at "nice") rfl)
/-! ## the law -/
structure Bg (d : PyData) : Prop where
  ok : okD d = true
  rp : RP d 5000
  dp : d.depth ≤ 8
theorem at_bg {d : PyData} (h : At d) : Bg d := ⟨h.ok, h.rp.up (by decide), Nat.le_trans h.dp (by decide)⟩
theorem bg_lst {ds : List PyData} (h : ∀ x ∈ ds, At x) (l : ds.length ≤ 20) : Bg (.list ds) := by
  have r := RP.list (RPs.all (n := 200) fun d hd => (h d hd).rp)
  refine ⟨okDAll_iff.mpr fun x hx => (h x hx).ok, r.up ?_, ?_⟩
  · have : ds.length * 202 ≤ 20 * 202 := Nat.mul_le_mul_right _ l
    omega
  · simp only [PyData.depth]
    have := depthAll_le (n := 3) fun d hd => (h d hd).dp
    omega
theorem bg_tup {ds : List PyData} (h : ∀ x ∈ ds, At x) (l : ds.length ≤ 20) : Bg (.tuple ds) := by
  have r := RP.tuple (RPs.all (n := 200) fun d hd => (h d hd).rp)
  refine ⟨okDAll_iff.mpr fun x hx => (h x hx).ok, r.up ?_, ?_⟩
  · have : ds.length * 202 ≤ 20 * 202 := Nat.mul_le_mul_right _ l
    omega
  · simp only [PyData.depth]
    have := depthAll_le (n := 3) fun d hd => (h d hd).dp
    omega
theorem sh3 {a b c : PyData} (ha : Bg a) (hb : Bg b) (hc : Bg c) : ShowsO (.tuple [a, b, c]) := by
  have h : ∀ x ∈ [a, b, c], Bg x := by
    intro x hx
    simp only [List.mem_cons, List.not_mem_nil, or_false] at hx
    rcases hx with rfl | rfl | rfl <;> assumption
  have r := RP.tuple (RPs.all (n := 5000) fun d hd => (h d hd).rp)
  refine ⟨okDAll_iff.mpr fun x hx => (h x hx).ok, r.sh, Nat.le_trans r.sz (sz_small ?_), ?_⟩
  · show 3 * 5002 + 2 ≤ _
    decide
  · simp only [PyData.depth]
    have := depthAll_le (n := 8) fun d hd => (h d hd).dp
    omega
theorem at_pair {y z : Str} (hy : PyData.strOk y = true) (hz : PyData.strOk z = true) (ly : y.length ≤ 6) (lz : z.length ≤ 6) : At (.tuple [.str y, .str z]) :=
  ⟨rfl, (RP.tuple (.cons (RP.str hy) (.cons (RP.str hz) .nil))).up (by omega), by simp only [PyData.depth, PyData.depthAll]; omega, fun _ e => nomatch e⟩
theorem way_ok (y : Way) : PyData.strOk y.s = true ∧ y.s.length ≤ 6 := by cases y <;> exact ⟨by decide +kernel, by decide +kernel⟩
theorem brk_ok {z : Str} (h : z ∈ breaks) : PyData.strOk z = true ∧ z.length ≤ 6 := by
  simp only [breaks, List.mem_cons, List.not_mem_nil, or_false] at h
  rcases h with rfl | rfl | rfl <;> exact ⟨by decide +kernel, by decide +kernel⟩
theorem at_sdr (y : Way) {z : Str} (h : z ∈ breaks) : At (.tuple [.str y.s, .str z]) := at_pair (way_ok y).1 (brk_ok h).1 (way_ok y).2 (brk_ok h).2
theorem is_sdr (y : Way) {z : Str} (h : z ∈ breaks) : isSender (.tuple [.str y.s, .str z]) = true := by
  show (strIn (.str y.s) ways && strIn (.str z) breaks) = true
  rw [ways_has]
  exact List.any_eq_true.mpr ⟨z, h, beq_self_eq_true z⟩
theorem sent_of (y : Way) {z : Str} (h : z ∈ breaks) (m u : Int) : sentW (.tuple [.str y.s, .str z]) m u = if canS z m u = true then .none else .str "fit" := by
  unfold sentW breakOf
  rw [if_pos (is_sdr y h)]
theorem none_in : ("none" : Str) ∈ breaks := by decide
def oddD : List PyData := [.none, .int 0, .tuple [], .list [], .dict [], .str "length", .tuple [.str "length"], .list [.str "length", .str "none"], .tuple [.str "length", .str "mark"], .tuple [.str "none", .str "length"]]
theorem odd_at : ∀ d ∈ oddD, At d ∧ isSender d = false := by
  intro d h
  simp only [oddD, List.mem_cons, List.not_mem_nil, or_false] at h
  rcases h with rfl | rfl | rfl | rfl | rfl | rfl | rfl | rfl | rfl | rfl
  · exact ⟨at_none, rfl⟩
  · exact ⟨at_int (by decide), rfl⟩
  · exact ⟨⟨rfl, (RP.tuple .nil).up (by decide), by simp only [PyData.depth, PyData.depthAll]; omega, fun _ e => nomatch e⟩, rfl⟩
  · exact ⟨at_list0, rfl⟩
  · exact ⟨at_dict0, rfl⟩
  · exact ⟨at_str (by decide +kernel) (by decide +kernel), rfl⟩
  · exact ⟨⟨rfl, (RP.tuple (.cons (RP.str (by decide +kernel)) .nil)).up (by decide +kernel), by simp only [PyData.depth, PyData.depthAll]; omega, fun _ e => nomatch e⟩, rfl⟩
  · exact ⟨⟨rfl, (RP.list (.cons (RP.str (by decide +kernel)) (.cons (RP.str (by decide +kernel)) .nil))).up (by decide +kernel), by simp only [PyData.depth, PyData.depthAll]; omega, fun _ e => nomatch e⟩, rfl⟩
  · exact ⟨at_pair (by decide +kernel) (by decide +kernel) (by decide +kernel) (by decide +kernel), by decide +kernel⟩
  · exact ⟨at_pair (by decide +kernel) (by decide +kernel) (by decide +kernel) (by decide +kernel), by decide +kernel⟩
theorem bad_bg : ∀ d ∈ badB, Bg d := by
  intro d h
  have atI2 : ∀ {ns : List Int}, (∀ n ∈ ns, n.natAbs < 2 ^ 100) → ∀ x ∈ ns.map PyData.int, At x := fun h x hx => by
    obtain ⟨n, hn, rfl⟩ := List.mem_map.mp hx
    exact at_int (h n hn)
  simp only [badB, List.mem_cons, List.not_mem_nil, or_false] at h
  rcases h with rfl | rfl | rfl | rfl | rfl | rfl | rfl | rfl | rfl
  · exact at_bg at_none
  · exact at_bg at_list0
  · exact bg_lst (atI2 (ns := [1]) (by decide)) (by decide)
  · exact bg_tup (atI2 (ns := [0, 0]) (by decide)) (by decide)
  · exact at_bg (at_int (by decide))
  · exact at_bg (at_str (by decide +kernel) (by decide +kernel))
  · refine bg_lst (fun x hx => ?_) (by decide)
    simp only [List.mem_cons, List.not_mem_nil, or_false] at hx
    rcases hx with rfl | rfl
    · exact at_int (by decide)
    · exact at_bool _
  · exact bg_lst (atI2 (ns := [0, 3, 2]) (by decide)) (by decide)
  · exact at_bg at_dict1
theorem ne_data {d : PyData} (h : Nice d 20) : (!PyData.eqv d d) = false := by rw [eqv_self h.nd]; rfl
-- script pot odd turn way meant other last thing




theorem scLaw : FnScope ["script", "pot", "odd", "turn", "way", "meant", "other", "last", "thing"] ["script"] (defScope sLaw) := ⟨rfl, rfl, rfl, by decide +kernel, rfl, by decide +kernel, by decide +kernel⟩
section
variable {P : Program} {w : World} {K : PySem.W.Frag} {mg : Str → Option Value} {base : Heap} {f : Addr} {fd : FuncData}
theorem ok_law (Fu : Fun K "law" "law" sLaw f fd) (oPot : Own P w K mg base "_law_pot_of" 1 ["script"] (spPot K)) (oB : Own P w K mg base "_law_below" 2 ["pot", "bound"] (spD K PreB RnB)) (oP : Own P w K mg base "_law_pick" 3 ["pot", "items"] (spD K PreP RnP)) (oWd : Own P w K mg base "_law_word" 6 ["way", "one", "other", "third"] (spF K grWord)) (mRange : mg "range" = none) (mMax : mg "max" = none) : FnG P w K mg base 7 f fd ["script"] (spLaw K) := by
  refine fn_law Fu scLaw rfl oPot (by decide) (by decide +kernel) (by decide +kernel) (by decide +kernel) ?_
  intro cdv A fr s H E a p c ms fm
  have dw : Draws (potW p c ms) p c ms := draws_pot
  refine' bd_set1 fm 2 rfl (r := .dat (.list oddD)) (ev_lst (a_cons ev_non (a_cons ev_int (a_cons (ev_tup a_nil) (a_cons (ev_lst a_nil) (a_cons (ev_dct0 fm) (a_cons ev_str (a_cons (ev_tup (a_cons ev_str a_nil)) (a_cons (ev_lst (a_cons ev_str (a_cons ev_str a_nil))) (a_cons (ev_tup (a_cons ev_str (a_cons ev_str a_nil))) (a_cons (ev_tup (a_cons ev_str (a_cons ev_str a_nil))) a_nil))))))))))) ?_
  refine' bd_forR fm (n := 8) (fun _ env => ∃ s3 s4 s5 s6 s7 s8, env = [.raw (.ref a), .raw (.ref p), .dat (.list oddD), s3, s4, s5, s6, s7, s8]) (a_cons ev_int a_nil) (by decide) mRange ?h0 ?hs ?hd
  case h0 => exact ⟨_, _, _, _, _, _, rfl⟩
  case hs =>
    rintro i _ hi ⟨s3, s4, s5, s6, s7, s8, rfl⟩
    refine ⟨_, tg_name fm 3 rfl, ?_⟩
    refine' bd_par fm 4 5 rfl rfl (by decide) (ea_cons (R := fun s => ∃ y : Way, s = .dat (.str y.s)) (Ev.imp (ev_draw fm dw oP (by decide) (r_cons (ev_raw fm 1 rfl rfl) (a_cons (ev_lst (a_cons ev_str (a_cons ev_str (a_cons ev_str a_nil)))) a_nil)) ⟨_, rfl, by show 0 < 3; decide, by show 3 ≤ 1000000; decide⟩) ?wy) (ea_cons (ev_drawN (R := fun r => ∃ m : Int, r = .int m ∧ 0 ≤ m ∧ m < 100000000000) fm dw oB (by decide) (ea_cons (ev_raw fm 1 rfl rfl) (ea_cons (ev_draw fm dw oP (by decide) (r_cons (ev_raw fm 1 rfl rfl) (a_cons (ev_lst (a_cons ev_int (a_cons ev_int (a_cons (ev_op ev_int ev_int (by walk_at "bin")) a_nil)))) a_nil)) ⟨_, rfl, by show 0 < 3; decide, by show 3 ≤ 1000000; decide⟩) ea_nil)) ?dr) ea_nil)) ?_
    case wy =>
      rintro r ⟨r, rfl, h⟩
      have h := h _ rfl
      simp only [List.mem_cons, List.not_mem_nil, or_false] at h
      have h : ∃ x : Way, r = .str x.s := h.elim (fun h => ⟨.length, h⟩) fun h => h.elim (fun h => ⟨.marks, h⟩) fun h => ⟨.close, h⟩
      obtain ⟨y, rfl⟩ := h
      exact ⟨y, rfl⟩
    case dr =>
      rintro rs ⟨_, _, rfl, rfl, _, _, rfl, ⟨r, rfl, h⟩, rfl⟩
      have h := h _ rfl
      have e11 : (10 ^ (11 : Int).toNat : Int) = 100000000000 := by decide
      rw [e11] at h
      simp only [List.mem_cons, List.not_mem_nil, or_false] at h
      obtain ⟨n, rfl, n0, n1⟩ : ∃ n : Int, r = .int n ∧ 0 < n ∧ n ≤ 100000000000 := by
        rcases h with rfl | rfl | rfl
        · exact ⟨10, rfl, by decide, by decide⟩
        · exact ⟨100, rfl, by decide, by decide⟩
        · exact ⟨100000000000, rfl, by decide, by decide⟩
      refine ⟨[.int n], rfl, ⟨n, rfl, n0, Int.lt_of_le_of_lt n1 (by decide)⟩, fun r hr => ?_⟩
      obtain ⟨m, rfl, m0, m1⟩ := hr n rfl
      exact ⟨m, rfl, m0, by omega⟩
    rintro _ ⟨_, _, rfl, ⟨y, rfl⟩, _, _, rfl, ⟨_, rfl, m, rfl, m0, m1⟩, rfl⟩
    refine ⟨_, _, rfl, ?_⟩
    refine bd_env (env' := [.raw (.ref a), .raw (.ref p), .dat (.list oddD), .dat (.int (i : Int)), .dat (.str y.s), .dat (.int m), s6, s7, s8]) (by kernel_rfl) ?_
    refine' bd_set fm 6 rfl (Ev.imp (R' := fun s => ∃ o : Int, s = .dat (.int o) ∧ o.natAbs < 2 ^ 100) (ev_draw fm dw oP (by decide) (r_cons (ev_raw fm 1 rfl rfl) (a_cons (ev_lst (a_cons (ev_op (ev_var fm 5 rfl rfl) ev_int (by walk_at "bin")) (a_cons (ev_op (ev_var fm 5 rfl rfl) ev_int (by walk_at "bin")) (a_cons (ev_callB (id := "max") fm (a_cons ev_int (a_cons (ev_op (ev_var fm 5 rfl rfl) ev_int (by walk_at "bin")) a_nil)) mMax (c_max fm)) (a_cons ev_int a_nil)))) (hz := sz_small (by show 4 ≤ 16777216; decide))) a_nil)) ⟨_, rfl, by show 0 < 4; decide, by show 4 ≤ 1000000; decide⟩) ?ot) ?_
    case ot =>
      rintro r ⟨r, rfl, h⟩
      have h := h _ rfl
      simp only [List.mem_cons, List.not_mem_nil, or_false] at h
      rcases h with rfl | rfl | rfl | rfl
      · exact ⟨_, rfl, by omega⟩
      · exact ⟨_, rfl, by omega⟩
      · exact ⟨_, rfl, by split <;> omega⟩
      · exact ⟨_, rfl, by decide⟩
    rintro _ ⟨o, rfl, ho⟩
    have bm : Bg (.int m) := at_bg (at_int (by omega))
    have bo : Bg (.int o) := at_bg (at_int ho)
    refine bd_env (env' := [.raw (.ref a), .raw (.ref p), .dat (.list oddD), .dat (.int (i : Int)), .dat (.str y.s), .dat (.int m), .dat (.int o), s7, s8]) (by kernel_rfl) ?_
    refine' bd_ifF (T1.is (et_and2 (c := !decide (o = m)) (d := false) (et_cmp (ev_var fm 6 rfl rfl) (ev_var fm 5 rfl rfl) b_neI) ?w1) (by rw [Bool.and_false])) ?_
    case w1 =>
      intro h
      have h : ¬ o = m := by simpa using h
      exact T1.is (et_cmp (E1.is (r' := .dat (.str "fit")) (ev_pure fm oWd (by decide) (a_cons ev_int (a_cons (ev_tup (a_cons (ev_var fm 4 rfl rfl) (a_cons ev_str a_nil))) (a_cons (ev_var fm 5 rfl rfl) (a_cons (ev_var fm 6 rfl rfl) a_nil)))) ⟨0, _, _, _, rfl, rfl, sh3 (at_bg (at_sdr y none_in)) bm bo, Or.inl ⟨rfl, m, o, rfl, rfl, rfl⟩⟩) (by rw [sent_of y none_in]; unfold canS; rw [if_pos rfl, if_neg (by simpa using h)])) ev_str b_neS) ne_self
    refine' bd_forT fm (ds := [.str "shut", .str "open"]) (fun _ env => ∃ s7, env = [.raw (.ref a), .raw (.ref p), .dat (.list oddD), .dat (.int (i : Int)), .dat (.str y.s), .dat (.int m), .dat (.int o), s7, s8]) (ev_tup (a_cons ev_str (a_cons ev_str a_nil))) ?l0 ?ls ?ld
    case l0 => exact ⟨_, rfl⟩
    case ls =>
      rintro j d _ hd ⟨s7, rfl⟩
      obtain ⟨l, rfl, lb, ln⟩ : ∃ l : Str, d = .str l ∧ l ∈ breaks ∧ l ≠ "none" := by
        have hm := List.mem_of_getElem? hd
        simp only [List.mem_cons, List.not_mem_nil, or_false] at hm
        rcases hm with rfl | rfl
        · exact ⟨_, rfl, by decide, by decide⟩
        · exact ⟨_, rfl, by decide, by decide⟩
      have cs : ∀ x u : Int, canS l x u = decide (u < x) := fun x u => by unfold canS; rw [if_neg ln]
      refine ⟨_, tg_name fm 7 rfl, ?_⟩
      refine bd_env (env' := [.raw (.ref a), .raw (.ref p), .dat (.list oddD), .dat (.int (i : Int)), .dat (.str y.s), .dat (.int m), .dat (.int o), .dat (.str l), s8]) (by kernel_rfl) ?_
      refine' bd_ifF (et_w (wf_or (T1.is (et_cmp (E1.is (r' := .dat (.str "fit")) (ev_pure fm oWd (by decide) (a_cons ev_int (a_cons (ev_tup (a_cons (ev_var fm 4 rfl rfl) (a_cons (ev_var fm 7 rfl rfl) a_nil))) (a_cons (ev_var fm 5 rfl rfl) (a_cons (ev_var fm 5 rfl rfl) a_nil)))) ⟨0, _, _, _, rfl, rfl, sh3 (at_bg (at_sdr y lb)) bm bm, Or.inl ⟨rfl, m, m, rfl, rfl, rfl⟩⟩) ?f1) ev_str b_neS) ne_self) (wf_one (T1.is (et_cmp (E1.is (r' := .dat (.str "fit")) (ev_pure fm oWd (by decide) (a_cons ev_int (a_cons (ev_tup (a_cons (ev_var fm 4 rfl rfl) (a_cons (ev_var fm 7 rfl rfl) a_nil))) (a_cons (ev_var fm 5 rfl rfl) (a_cons (ev_op (ev_var fm 5 rfl rfl) ev_int (by walk_at "bin")) a_nil)))) ⟨0, _, _, _, rfl, rfl, sh3 (at_bg (at_sdr y lb)) bm (at_bg (at_int (by omega))), Or.inl ⟨rfl, m, m + 3, rfl, rfl, rfl⟩⟩) ?f2) ev_str b_neS) ne_self)))) ?_
      case f1 => rw [sent_of y lb, cs, if_neg (by simp)]
      case f2 => rw [sent_of y lb, cs, if_neg (by simp; omega)]
      refine' bd_ifF (T1.is (et_cmp (x := .bool (decide (o < m))) (y := .bool (decide (o < m))) (E1.is (ev_cmp (ev_pure fm oWd (by decide) (a_cons ev_int (a_cons (ev_tup (a_cons (ev_var fm 4 rfl rfl) (a_cons (ev_var fm 7 rfl rfl) a_nil))) (a_cons (ev_var fm 5 rfl rfl) (a_cons (ev_var fm 6 rfl rfl) a_nil)))) ⟨0, _, _, _, rfl, rfl, sh3 (at_bg (at_sdr y lb)) bm bo, Or.inl ⟨rfl, m, o, rfl, rfl, rfl⟩⟩) ev_non b_isN) ?f3) (ev_cmp (ev_var fm 6 rfl rfl) (ev_var fm 5 rfl rfl) b_lt) (n_ne fm Nice.bool Nice.bool)) (ne_data Nice.bool)) ?_
      case f3 =>
        rw [sent_of y lb, cs]
        by_cases h : o < m
        · rw [if_pos (decide_eq_true h), decide_eq_true h]; rfl
        · rw [if_neg (by simpa using h), decide_eq_false h]; rfl
      exact bd_nil ⟨_, rfl⟩
    case ld =>
      rintro _ ⟨s7, rfl⟩
      refine' bd_ifF (T1.is (et_cmp (E1.is (r' := .dat .none) (ev_pure fm oWd (by decide) (a_cons ev_int (a_cons (ev_tup (a_cons (ev_var fm 4 rfl rfl) (a_cons ev_str a_nil))) (a_cons (ev_var fm 5 rfl rfl) (a_cons (ev_var fm 5 rfl rfl) a_nil)))) ⟨0, _, _, _, rfl, rfl, sh3 (at_bg (at_sdr y none_in)) bm bm, Or.inl ⟨rfl, m, m, rfl, rfl, rfl⟩⟩) (by rw [sent_of y none_in]; unfold canS; rw [if_pos rfl, if_pos (by simp)])) ev_non b_notN) rfl) ?_
      refine' bd_forL fm (ds := oddD) (fun _ env => ∃ s8, env = [.raw (.ref a), .raw (.ref p), .dat (.list oddD), .dat (.int (i : Int)), .dat (.str y.s), .dat (.int m), .dat (.int o), s7, s8]) (ev_var fm 2 rfl rfl) ?o0 ?os ?od
      case o0 => exact ⟨_, rfl⟩
      case os =>
        rintro j d _ hd ⟨s8, rfl⟩
        obtain ⟨da, dn⟩ := odd_at d (List.mem_of_getElem? hd)
        refine ⟨_, tg_name fm 8 rfl, ?_⟩
        refine bd_env (env' := [.raw (.ref a), .raw (.ref p), .dat (.list oddD), .dat (.int (i : Int)), .dat (.str y.s), .dat (.int m), .dat (.int o), s7, .dat d]) (by kernel_rfl) ?_
        refine' bd_ifF (T1.is (et_cmp (E1.is (r' := .dat (.str "sender")) (ev_pure fm oWd (by decide) (a_cons ev_int (a_cons (ev_var fm 8 rfl rfl) (a_cons (ev_var fm 5 rfl rfl) (a_cons (ev_op (ev_var fm 5 rfl rfl) ev_int (by walk_at "bin")) a_nil)))) ⟨0, _, _, _, rfl, da.ok, sh3 (at_bg da) bm (at_bg (at_int (by omega))), Or.inl ⟨rfl, m, m + 1, rfl, rfl, rfl⟩⟩) (by unfold sentW; rw [if_neg (by rw [dn]; exact Bool.false_ne_true)])) ev_str b_neS) ne_self) ?_
        have l2 : ∀ x ∈ [PyData.tuple [.str y.s, .str "shut"], d], At x := fun x hx => by
          simp only [List.mem_cons, List.not_mem_nil, or_false] at hx
          rcases hx with rfl | rfl
          · exact at_sdr y (by decide)
          · exact da
        have n2 : isSenders (.list [.tuple [.str y.s, .str "shut"], d]) = false := by
          show (isSender _ && (isSender d && true)) = false
          rw [dn, Bool.false_and, Bool.and_false]
        refine' bd_ifF (T1.is (et_cmp (E1.is (r' := .dat (.str "sender")) (ev_pure fm oWd (by decide) (a_cons ev_int (a_cons (ev_lst (a_cons (ev_tup (a_cons (ev_var fm 4 rfl rfl) (a_cons ev_str a_nil))) (a_cons (ev_var fm 8 rfl rfl) a_nil))) (a_cons ev_non (a_cons ev_int a_nil)))) ⟨1, _, _, _, rfl, (bg_lst l2 (by show 2 ≤ 20; decide)).ok, sh3 (bg_lst l2 (by show 2 ≤ 20; decide)) (at_bg at_none) (at_bg (at_int (by decide))), Or.inr ⟨rfl, fun _ e => by cases e; show 2 ≤ 1000; decide, Or.inl n2, rfl⟩⟩) (by unfold startsW; rw [if_neg (by rw [n2]; exact Bool.false_ne_true)])) ev_str b_neS) ne_self) ?_
        exact bd_nil ⟨_, rfl⟩
      case od =>
        rintro _ ⟨s8, rfl⟩
        refine' bd_forL fm (ds := [.none, .tuple [], .dict [], .str "x", .int 0, .tuple [.tuple [.str y.s, .str "shut"]]]) (fun _ env => ∃ s8, env = [.raw (.ref a), .raw (.ref p), .dat (.list oddD), .dat (.int (i : Int)), .dat (.str y.s), .dat (.int m), .dat (.int o), s7, s8]) (ev_lst (a_cons ev_non (a_cons (ev_tup a_nil) (a_cons (ev_dct0 fm) (a_cons ev_str (a_cons ev_int (a_cons (ev_tup (a_cons (ev_tup (a_cons (ev_var fm 4 rfl rfl) (a_cons ev_str a_nil))) a_nil)) a_nil))))))) ?p0 ?ps ?pd
        case p0 => exact ⟨_, rfl⟩
        case ps =>
          rintro j d _ hd ⟨s8, rfl⟩
          have hm := List.mem_of_getElem? hd
          obtain ⟨db, dn, ds⟩ : Bg d ∧ isSenders d = false ∧ small d := by
            simp only [List.mem_cons, List.not_mem_nil, or_false] at hm
            rcases hm with rfl | rfl | rfl | rfl | rfl | rfl
            · exact ⟨at_bg at_none, rfl, fun _ e => nomatch e⟩
            · exact ⟨bg_tup (fun x hx => nomatch hx) (by decide), rfl, fun _ e => nomatch e⟩
            · exact ⟨at_bg at_dict0, rfl, fun _ e => nomatch e⟩
            · exact ⟨at_bg (at_str (by decide +kernel) (by decide +kernel)), rfl, fun _ e => nomatch e⟩
            · exact ⟨at_bg (at_int (by decide)), rfl, fun _ e => nomatch e⟩
            · exact ⟨bg_tup (fun x hx => by rw [List.mem_singleton.mp hx]; exact at_sdr y (by decide)) (by show 1 ≤ 20; decide), rfl, fun _ e => nomatch e⟩
          refine ⟨_, tg_name fm 8 rfl, ?_⟩
          refine bd_env (env' := [.raw (.ref a), .raw (.ref p), .dat (.list oddD), .dat (.int (i : Int)), .dat (.str y.s), .dat (.int m), .dat (.int o), s7, .dat d]) (by kernel_rfl) ?_
          refine' bd_ifF (T1.is (et_cmp (E1.is (r' := .dat (.str "sender")) (ev_pure fm oWd (by decide) (a_cons ev_int (a_cons (ev_var fm 8 rfl rfl) (a_cons (ev_lst (a_cons ev_int a_nil)) (a_cons ev_int a_nil)))) ⟨1, _, _, _, rfl, db.ok, sh3 db (bg_lst (fun x hx => by rw [List.mem_singleton.mp hx]; exact at_int (by decide)) (by decide)) (at_bg (at_int (by decide))), Or.inr ⟨rfl, ds, Or.inl dn, rfl⟩⟩) (by unfold startsW; rw [if_neg (by rw [dn]; exact Bool.false_ne_true)])) ev_str b_neS) ne_self) ?_
          exact bd_nil ⟨_, rfl⟩
        case pd =>
          rintro _ ⟨s8, rfl⟩
          refine' bd_forL fm (ds := badB) (fun _ env => ∃ s8, env = [.raw (.ref a), .raw (.ref p), .dat (.list oddD), .dat (.int (i : Int)), .dat (.str y.s), .dat (.int m), .dat (.int o), s7, s8]) (ev_lst (a_cons ev_non (a_cons (ev_lst a_nil) (a_cons (ev_lst (a_cons ev_int a_nil)) (a_cons (ev_tup (a_cons ev_int (a_cons ev_int a_nil))) (a_cons ev_int (a_cons ev_str (a_cons (ev_lst (a_cons ev_int (a_cons ev_bl a_nil))) (a_cons (ev_lst (a_cons ev_int (a_cons ev_int (a_cons ev_int a_nil)))) (a_cons (ev_dctI fm) a_nil)))))))))) ?q0 ?qs ?qd
          case q0 => exact ⟨_, rfl⟩
          case qs =>
            rintro j d _ hd ⟨s8, rfl⟩
            have hm := List.mem_of_getElem? hd
            have db := bad_bg d hm
            refine ⟨_, tg_name fm 8 rfl, ?_⟩
            refine bd_env (env' := [.raw (.ref a), .raw (.ref p), .dat (.list oddD), .dat (.int (i : Int)), .dat (.str y.s), .dat (.int m), .dat (.int o), s7, .dat d]) (by kernel_rfl) ?_
            have l1 : ∀ x ∈ [PyData.tuple [.str y.s, .str "shut"]], At x := fun x hx => by rw [List.mem_singleton.mp hx]; exact at_sdr y (by decide)
            have n1 : isSenders (.list [.tuple [.str y.s, .str "shut"]]) = true := by
              show (isSender _ && true) = true
              rw [is_sdr y (by decide)]
              rfl
            refine' bd_ifF (et_w (wf_or (T1.is (et_cmp (E1.is (r' := .dat (.str "bounds")) (ev_pure fm oWd (by decide) (a_cons ev_int (a_cons (ev_lst (a_cons (ev_tup (a_cons (ev_var fm 4 rfl rfl) (a_cons ev_str a_nil))) a_nil)) (a_cons (ev_var fm 8 rfl rfl) (a_cons ev_int a_nil)))) ⟨1, _, _, _, rfl, (bg_lst l1 (by show 1 ≤ 20; decide)).ok, sh3 (bg_lst l1 (by show 1 ≤ 20; decide)) db (at_bg (at_int (by decide))), Or.inr ⟨rfl, fun _ e => by cases e; show 1 ≤ 1000; decide, Or.inr hm, rfl⟩⟩) ?f4) ev_str b_neS) ne_self) (wf_one (T1.is (et_cmp (E1.is (r' := .dat (.str "bounds")) (ev_pure fm oWd (by decide) (a_cons ev_int (a_cons (ev_lst a_nil) (a_cons (ev_var fm 8 rfl rfl) (a_cons ev_int a_nil)))) ⟨1, _, _, _, rfl, rfl, sh3 (at_bg at_list0) db (at_bg (at_int (by decide))), Or.inr ⟨rfl, fun _ e => by cases e; show 0 ≤ 1000; decide, Or.inr hm, rfl⟩⟩) rfl) ev_str b_neS) ne_self)))) ?_
            case f4 => unfold startsW; rw [if_pos n1]
            exact bd_nil ⟨_, rfl⟩
          case qd =>
            rintro _ ⟨s8, rfl⟩
            exact bd_nil ⟨_, _, _, _, _, _, rfl⟩
  case hd =>
    rintro _ ⟨s3, s4, s5, s6, s7, s8, rfl⟩
    exact bd_ret1 ev_bl rfl
end
end K36

set_option Elab.async false
set_option linter.all false
set_option maxRecDepth 100000
set_option maxHeartbeats 1000000
namespace K36
open PySem PySem.Spec PyProof.Rows L2 Cr
def ConT (K : PySem.W.Frag) (x : Str) (ss : List Str) : Prop := ∃ a : Addr, PySem.W.nsIn K mainGlobals x = some (some (.ref a)) ∧ DC K (.ref a) (.tuple (ss.map .str))
theorem conT_mk {K : PySem.W.Frag} {x : Str} {ss : List Str} {a : Addr} {dd : Option Addr} {its : Array Value} {n : Nat} {sl : Array (Option Value)} (g : PySem.W.nsIn K mainGlobals x = some (some (.ref a))) (l : K.lookup a = some ⟨.type "tuple", dd, .seq its n, sl⟩) (h : strsB its.toList ss = true) (z : its.size ≤ 1000) : ConT K x ss :=
  ⟨a, g, dc_tup l h z⟩
theorem exms_mk {K : PySem.W.Frag} {cS cB cM : Addr} (h1 : PySem.W.exmOne K (.ref cS) (.ref cS) = some true) (h2 : PySem.W.exmOne K (.ref cB) (.ref cS) = some false) (h3 : PySem.W.exmOne K (.ref cB) (.ref cB) = some true) (h4 : PySem.W.exmOne K (.ref cM) (.ref cS) = some false) (h5 : PySem.W.exmOne K (.ref cM) (.ref cB) = some false) (h6 : PySem.W.exmOne K (.ref cM) (.ref cM) = some true) : Exms K cS cB cM := ⟨h1, h2, h3, h4, h5, h6⟩
theorem ends {P : Program} {w : World} {K : PySem.W.Frag} {mg : Str → Option Value} {h : Heap} {fa : Addr} (X : K.In h) (G : h.Ns mainGlobals mg) (hfa : mg "law" = some (.ref fa)) (c1 : ConT K "WAYS" ways) (c2 : ConT K "BREAKS" breaks)
    (d1 : DefF K "is_integer" sIsInt) (d2 : DefF K "is_count" sIsCount) (d3 : DefF K "whole_sending" sWholeSnd) (d4 : DefF K "check_bounds" sChkB) (d5 : DefF K "_are_bounds" sAreB) (d6 : DefF K "is_sender" sIsSdr) (d7 : DefF K "check_senders" sChkS) (d8 : DefF K "sent" sSent) (d9 : DefF K "_can_send" sCan) (d10 : DefF K "starts" sStarts)
    (d11 : DefF K "_law_kneaded" sKnead) (d12 : DefF K "_law_pot_of" sPotOf) (d13 : DefF K "_law_below" sBelow) (d14 : DefF K "_law_pick" sPick) (d15 : DefF K "_law_word" sWord) (d16 : DefF K "law" sLaw) (cS cB cM : Addr) (xS : ExcIn K "NoSender" cS) (xB : ExcIn K "NoBounds" cB) (xM : ExcIn K "Mismatch" cM) (ex : Exms K cS cB cM)
    (z1 : PySem.W.nsIn K mainGlobals "int" = some none) (z2 : PySem.W.nsIn K mainGlobals "range" = some none) (z3 : PySem.W.nsIn K mainGlobals "len" = some none) (z4 : PySem.W.nsIn K mainGlobals "abs" = some none) (z5 : PySem.W.nsIn K mainGlobals "enumerate" = some none)
    (z6 : PySem.W.nsIn K mainGlobals "max" = some none) (z7 : PySem.W.nsIn K mainGlobals "all" = some none) (z8 : PySem.W.nsIn K mainGlobals "repr" = some none) (z9 : PySem.W.nsIn K mainGlobals "isinstance" = some none) (z10 : PySem.W.nsIn K mainGlobals "bool" = some none) (z12 : PySem.W.nsIn K mainGlobals "tuple" = some none) (z13 : PySem.W.nsIn K mainGlobals "list" = some none) (z14 : PySem.W.nsIn K mainGlobals "zip" = some none) :
    ∃ fd : FuncData, (∀ (s : Shared) (u : Value), BindsTo s fd ⟨[u], []⟩ [("script", u)]) ∧ ∀ base : Heap, K.In base → base.Ns mainGlobals mg → (base.get? sysModules).isSome = true → FnG P w K mg base 7 fa fd ["script"] (spLaw K) := by
  have m1 := PySem.W.mg_none_of X G z1
  have m2 := PySem.W.mg_none_of X G z2
  have m3 := PySem.W.mg_none_of X G z3
  have m4 := PySem.W.mg_none_of X G z4
  have m5 := PySem.W.mg_none_of X G z5
  have m6 := PySem.W.mg_none_of X G z6
  have m7 := PySem.W.mg_none_of X G z7
  have m8 := PySem.W.mg_none_of X G z8
  have m9 := PySem.W.mg_none_of X G z9
  have m10 := PySem.W.mg_none_of X G z10
  have m12 := PySem.W.mg_none_of X G z12
  have m13 := PySem.W.mg_none_of X G z13
  have m14 := PySem.W.mg_none_of X G z14
  have ct : ∀ {x ss}, ConT K x ss → MG mg K x ss := fun ⟨a, g, z⟩ => ⟨a, PySem.W.mg_of X G g, z⟩
  refine law_mkS X G hfa d16 rfl (fun _ _ _ _ _ _ _ => rfl) fun base _ _ hs f fd Fu => ?_
  have TS := xS.txt X G
  have TB := xB.txt X G
  have TM := xM.txt X G
  have oI : Own P w K mg base _ 1 _ _ := own_mk X G d1 (fun _ _ _ _ _ _ us hl => match us, hl with | [_], _ => rfl) fun f fd Fu => ok_isInt Fu m9 m1 m10
  have oC : Own P w K mg base _ 2 _ _ := own_mk X G d2 (fun _ _ _ _ _ _ us hl => match us, hl with | [_], _ => rfl) fun f fd Fu => ok_isCount Fu oI
  have oWs : Own P w K mg base _ 1 _ _ := own_mk X G d3 (fun _ _ _ _ _ _ us hl => match us, hl with | [_, _, _], _ => rfl) fun f fd Fu => ok_wholeSnd Fu
  have oAb : Own P w K mg base _ 3 _ _ := own_mk X G d5 (fun _ _ _ _ _ _ us hl => match us, hl with | [_], _ => rfl) fun f fd Fu => ok_areB Fu oC m9 m12 m13 m3 m7 m14
  have oCb : OwnX P w K mg base _ 4 _ _ := ownX_mk X G d4 (fun _ _ _ _ _ _ us hl => match us, hl with | [_], _ => rfl) fun f fd Fu => ok_chkB Fu TB oAb
  have oSd : Own P w K mg base _ 1 _ _ := own_mk X G d6 (fun _ _ _ _ _ _ us hl => match us, hl with | [_], _ => rfl) fun f fd Fu => ok_isSdr Fu hs (ct c1) (ct c2) m9 m12 m3
  have oCs : OwnX P w K mg base _ 2 _ _ := ownX_mk X G d7 (fun _ _ _ _ _ _ us hl => match us, hl with | [_], _ => rfl) fun f fd Fu => ok_chkS Fu TS oSd m9 m13 m7
  have oCn : Own P w K mg base _ 1 _ _ := own_mk X G d9 (fun _ _ _ _ _ _ us hl => match us, hl with | [_, _, _], _ => rfl) fun f fd Fu => ok_can Fu
  have oSt : OwnX P w K mg base _ 2 _ _ := ownX_mk X G d8 (fun _ _ _ _ _ _ us hl => match us, hl with | [_, _, _], _ => rfl) fun f fd Fu => ok_sent Fu TS TM oSd oCn oWs
  have oSs : OwnX P w K mg base _ 5 _ _ := ownX_mk X G d10 (fun _ _ _ _ _ _ us hl => match us, hl with | [_, _], _ => rfl) fun f fd Fu => ok_starts Fu oCs oCb
  have oK : Own P w K mg base _ 1 _ _ := own_mk X G d11 (fun _ _ _ _ _ _ us hl => match us, hl with | [_, _], _ => rfl) fun f fd Fu => ok_knead Fu m1 m2
  have oPot : Own P w K mg base _ 1 _ _ := own_mk X G d12 (fun _ _ _ _ _ _ us hl => match us, hl with | [_], _ => rfl) fun f fd Fu => ok_potOf Fu m4 m5
  have oB : Own P w K mg base _ 2 _ _ := own_mk X G d13 (fun _ _ _ _ _ _ us hl => match us, hl with | [_, _], _ => rfl) fun f fd Fu => ok_below Fu oK m1 m3
  have oP : Own P w K mg base _ 3 _ _ := own_mk X G d14 (fun _ _ _ _ _ _ us hl => match us, hl with | [_, _], _ => rfl) fun f fd Fu => ok_pick Fu oB m3
  have oWd : Own P w K mg base _ 6 _ _ := own_mk X G d15 (fun _ _ _ _ _ _ us hl => match us, hl with | [_, _, _, _], _ => rfl) fun f fd Fu => ok_word Fu TS TB TM ex oSt oSs hs m8
  exact ok_law Fu oPot oB oP oWd m2 m6
end K36

set_option Elab.async false
set_option maxRecDepth 100000
open PySem PySem.W PyProof.Rows
local macro_rules | `(tactic| walk_at "dfn") => `(tactic| (refine' Cr.dfn_mk ?a ?l ?c ?k; (case a => k_is); (case l => k_is); (case c => k_is); (case k => k_is)))
local macro_rules | `(tactic| walk_at "con") => `(tactic| (refine' K36.conT_mk ?a ?l ?h ?z; (case a => k_is); (case l => k_is); (case h => decide +kernel); (case z => decide +kernel)))
set_option maxHeartbeats 0 in
theorem PySem.Challenge.cw_cutrelays_k36_senders_refused_holds : PySem.Challenge.rw_cutrelays_k36_senders_refused.Holds := by
  w_on; o_law; k_head; (case hw => w_witness2)
  k_fill
  refine Cr.walkS (l := PySem.Challenge.rw_cutrelays_k36_senders_refused) (n := 63) (k := 7) (x := "script") (sp := fun K => Cr.spLaw K) rfl (by decide) rfl ⟨rfl, by decide, by decide⟩ (by decide +kernel) (fun w h Y => PySem.W.kIn_of Y) ?F (fun K H a ns hl _ hS => ⟨a, ns, rfl, hS, hl, fun _ => rfl⟩)
  case F =>
    intro w mg fa h KX G hmg
    refine' K36.ends KX G hmg ?c1 ?c2 ?d1 ?d2 ?d3 ?d4 ?d5 ?d6 ?d7 ?d8 ?d9 ?d10 ?d11 ?d12 ?d13 ?d14 ?d15 ?d16 ?cS ?cB ?cM ?xS ?xB ?xM ?ex ?z1 ?z2 ?z3 ?z4 ?z5 ?z6 ?z7 ?z8 ?z9 ?z10 ?z12 ?z13 ?z14
    (case xS => (refine' ⟨?g, ?k, ?x, ?b, ?t⟩; (case g => k_is); (case k => k_is); (case x => k_exc); (case b => k_is); (case t => k_is)))
    (case xB => (refine' ⟨?g, ?k, ?x, ?b, ?t⟩; (case g => k_is); (case k => k_is); (case x => k_exc); (case b => k_is); (case t => k_is)))
    (case xM => (refine' ⟨?g, ?k, ?x, ?b, ?t⟩; (case g => k_is); (case k => k_is); (case x => k_exc); (case b => k_is); (case t => k_is)))
    (case ex => (refine' K36.exms_mk ?h1 ?h2 ?h3 ?h4 ?h5 ?h6; (case h1 => kts_exm); (case h2 => kts_exm); (case h3 => kts_exm); (case h4 => kts_exm); (case h5 => kts_exm); (case h6 => kts_exm)))
    (case c1 => walk_at "con"); (case c2 => walk_at "con")
    (case d1 => walk_at "dfn"); (case d2 => walk_at "dfn"); (case d3 => walk_at "dfn"); (case d4 => walk_at "dfn"); (case d5 => walk_at "dfn"); (case d6 => walk_at "dfn"); (case d7 => walk_at "dfn"); (case d8 => walk_at "dfn"); (case d9 => walk_at "dfn"); (case d10 => walk_at "dfn"); (case d11 => walk_at "dfn"); (case d12 => walk_at "dfn"); (case d13 => walk_at "dfn"); (case d14 => walk_at "dfn"); (case d15 => walk_at "dfn"); (case d16 => walk_at "dfn")
    (case z1 => k_is); (case z2 => k_is); (case z3 => k_is); (case z4 => k_is); (case z5 => k_is); (case z6 => k_is); (case z7 => k_is); (case z8 => k_is); (case z9 => k_is); (case z10 => k_is); (case z12 => k_is); (case z13 => k_is); (case z14 => k_is)

