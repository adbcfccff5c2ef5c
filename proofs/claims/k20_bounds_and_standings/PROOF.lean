import PyProof.Rows.All
import Wide.All
import OpenK.AllK
import Wide.FinOn
import PyProof.EqAt
import PyProof.EqKinds
import PyProof.TupleCall
import HandS.Base
import HandS.Call
import HandS.List
import HandS.Comp
import HandS.Ends
import HandS.Wide
import HandS.ForMost
import HandS.NoneIn
import HandS.TupAny
import HandS.IsInst
import HandS.Deep
import HandS.RaiseMore
import HandS.TupLe
import KE.DatumIndex
import HandS.Walk
import HandS.FStrTup
import HandS.WrittenGet
import HandS.Style
import HandS.TupMul
import KE.SortKeyHeap
import HandS.SortKw
import HandS.Keys
import KE.DataFind
import KE.DataCmp
import HandS.Strs
import KE.KExcSuper
import PyProof.FString
import HandS.Exc
import HandS.ExcOwn
import HandS.ExcSuper
import HandS.TryMany
import HandS.ExcField
import HandS.GenList
import HandS.Zip
import KE.KDictZip
import KE.GoesMore
import KE.GoesZip
import HandS.MakeKwOnly
import KE.KIsAll
import HandS.SetFor
import HandS.Dict
import HandS.Small
import KE.GoesEnum
import KE.RegKTryMore
import PySem.Challenge.RW_cutrelays_k20_bounds_and_standings
set_option Elab.async false
set_option linter.all false
set_option maxRecDepth 100000
set_option maxHeartbeats 4000000
namespace Cr
open PySem PySem.Spec PyProof.Rows L2

/-! ## a def's promise where nothing is being shown (guards known to be none) -/
structure FnG (P : Program) (w : World) (K : PySem.W.Frag) (mg : Str → Option Value) (base : Heap) (k : Nat) (f : Addr) (fd : FuncData) (ps : List Str) (sp : Sp) : Prop where
  len : ∀ vs H Q E, sp vs H Q E → vs.length = ps.length
  run : ∀ (A : Around) (fr : List Env) (s : Shared) (H : Hp) (args : Args) (us : List Value) (vs : List V) (Q : VK) (E : XK), A.guards = some [] → Room k A → Env0 P w K mg base A fr s H →
    BindsTo s fd args (ps.zip us) → Vals vs us → sp vs H Q E → codeAny (model P w) A (.call (.ref f) args) (CR (fun _ _ _ _ _ _ => False) fr P w H s Q E) s
abbrev CXn : CXT := fun _ _ _ _ _ _ => False
section
variable {P : Program} {w : World} {K : PySem.W.Frag} {mg : Str → Option Value} {base : Heap} {k : Nat} {f : Addr} {fd : FuncData} {ps : List Str} {sp : Sp}
theorem FnG.up {j : Nat} (F : FnG P w K mg base j f fd ps sp) (h : j ≤ k) : FnG P w K mg base k f fd ps sp :=
  ⟨F.len, fun A fr s H args us vs Q E g hr => F.run A fr s H args us vs Q E g (hr.mono h)⟩
theorem FnG.weaker {sp' : Sp} (F : FnG P w K mg base k f fd ps sp) (h : ∀ vs H Q E, sp' vs H Q E → sp vs H Q E) : FnG P w K mg base k f fd ps sp' :=
  ⟨fun vs H Q E z => F.len vs H Q E (h _ _ _ _ z), fun A fr s H args us vs Q E g hr e0 hb r z => F.run A fr s H args us vs Q E g hr e0 hb r (h _ _ _ _ z)⟩

/-- a def by its body -/
theorem fnG_of {name qual : Str} {params : Arguments} {body : List Stmt} {scope : Scope} {dV kV doc pm cdv ct oc : Value} {an od : Option Addr} {osl : Array (Option Value)} {N : List Str}
    (lk : K.lookup f = some ⟨oc, od, .func (PySem.W.fnOf name qual params body scope dV kV doc pm an cdv ct), osl⟩) (cdIn : PySem.W.codeIn K cdv qual = true) (S : FnScope N ps scope)
    (len : ∀ vs H Q E, sp vs H Q E → vs.length = ps.length)
    (body_ok : ∀ (A : Around) (fr : List Env) (s : Shared) (H : Hp) (vs : List V) (Q : VK) (E : XK), A.guards = some [] → Room k (A.deeper (envOfC qual scope s.heap.objs.size f cdv)) → sp vs H Q E →
      ∃ t, PSs (cxOf CXn P w K mg base N qual scope f cdv A fr s H E) body t ∧ t { nx := fun _ H' => Q .non H', rt := Q } (start N vs) H) :
    FnG P w K mg base (k + 1) f (PySem.W.fnOf name qual params body scope dV kV doc pm an cdv ct) ps sp := by
  constructor
  · exact len
  intro A fr s H args us vs Q E g0 room env0 binds rel hsp
  have len1 := len _ _ _ _ hsp
  have kin : K.In s.heap := env0.mod.kin.keeps fun b o z => (env0.bs b o z).1
  have nolim : s.heap.NoLimit := env0.mod.nolimit.keeps fun b o z => (env0.bs b o z).1
  have kinds : ∀ y ∈ ps.zip us, scope.names.lookup y.1 = some .local ∨ (scope.names.lookup y.1 = some .cell ∧ ((cellsFrom (s.heap.objs.size + 1) scope.names []).lookup y.1).isSome = true) := by
    rintro ⟨n, v⟩ hy
    cases S.par n (List.of_mem_zip hy).1 with
    | inl q => exact Or.inl q
    | inr q => exact Or.inr ⟨q, PySem.W.cellsFrom_some _ _ _ (Or.inl q)⟩
  apply codeAny_call_function room.depth (kin _ _ lk) rfl S.co S.gen rfl (PySem.W.codeRec_of kin cdIn) (binds _ _ _ _ ?_)
  apply wpAny_newFunctionEnv_cells S.kind kinds
  intro env henv s1 x
  cases henv
  refine ⟨nolim.keeps x.toInCall.keep, codeAny_func ?_⟩
  obtain ⟨t, ht, hq⟩ := body_ok A fr s H vs Q E g0 (room.deeper _) hsp
  have I0 : Inv (cxOf CXn P w K mg base N qual scope f cdv A fr s H E) [] (start N vs) H s1 := inv_start S room.hd env0 len1 rel x
  refine wpAny_mono (ht.run [] s1 (start N vs) H _ I0 hq) ?_ (fun e s' hs => hs)
  intro fl s' hs
  match fl, hs with
  | .ret u, ⟨v, _, H', J, rv, q⟩ => exact ⟨v, H', J.os, J.bare, J.base, J.hok, rv, q⟩
  | .next, ⟨_, H', J, q⟩ => exact ⟨V.non, H', J.os, J.bare, J.base, J.hok, rfl, q⟩
  | .brk, ⟨_, _, _, q⟩ => exact q.elim
  | .cont, ⟨_, _, _, q⟩ => exact q.elim
end
section
variable {X : Cx} {k : Nat} {f : Addr} {fd : FuncData} {ps : List Str} {sp : Sp} {dvs : List V} {ds : List Value} {E : XK} {x : Str} {p pos : Pos} {e : Expr} {es : List Expr} {t : TA}
theorem runG {pins : List (Addr × Obj)} {σ : L2.St} {H : Hp} {s : Shared} {Q : VK} {us : List Value} {vs : List V} (F : FnG X.prog X.w X.K X.mg X.base k f fd ps sp) (hg : X.A.guards = some []) (hr : Room k X.A) (hb : Binds X.K fd ps ds) (hd : Vals dvs ds)
    (I : Inv X pins σ H s) (r : Vals vs us) (h : sp (vs ++ dvs) H Q E) : wpAny (model X.prog X.w) X.A (call (.ref f) us) (EP X pins σ Q) X.xe s := by
  have rr := r.append hd
  have ll : (us ++ ds).length = ps.length := rr.length.symm.trans (F.len _ _ _ _ h)
  apply wpAny_call
  refine codeAny_mono (F.run X.A X.stack s H ⟨us, []⟩ (us ++ ds) (vs ++ dvs) Q E hg hr I.env0 (hb s us I.kIn ll) rr h) ?_
  intro res s' hq
  match res, hq with
  | .ok (.ret u), hq => exact I.after hq
theorem pe_callG (F : FnG X.prog X.w X.K X.mg X.base k f fd ps sp) (hg : X.A.guards = some []) (hr : Room k X.A) (gl : Gl X x) (hm : X.mg x = some (.ref f)) (hk : PySem.W.keepIn X.K (.ref f) = true) (hb : Binds X.K fd ps ds) (hd : Vals dvs ds)
    (ha : PA X (e :: es) t) (E : XK) (hdb : (x == ("__debug__" : Str)) = false := by decide) (st : starEach (e :: es) X.env = (false, eval e X.env) :: starEach es X.env := by rfl) (pl : (backTo pos (starEach es X.env)).any (·.1) = false := by rfl) :
    PE X (.Call (.Name x p) (e :: es) [] pos) (tCall sp dvs E t) := by
  constructor
  intro pins s σ H Q I h
  apply wpAny_Call_Name_kw (ld_glob I gl hm ?_ hdb)
  refine PySem.W.callWith_K (h₀ := X.base) I.ok.mod.kin hk (thn (ha.run pos pins s σ H _ I h) ?_) st pl
  rintro us s1 ⟨vs, H1, I1, r, q⟩
  exact ⟨I1.kIn, runG (E := E) F hg hr hb hd I1 r q⟩
theorem pe_callG0 (F : FnG X.prog X.w X.K X.mg X.base k f fd ps sp) (hg : X.A.guards = some []) (hr : Room k X.A) (gl : Gl X x) (hm : X.mg x = some (.ref f)) (hk : PySem.W.keepIn X.K (.ref f) = true) (hb : Binds X.K fd ps ds) (hd : Vals dvs ds)
    (E : XK) (hdb : (x == ("__debug__" : Str)) = false := by decide) : PE X (.Call (.Name x p) [] [] pos) (tCall sp dvs E tNil) := by
  constructor
  intro pins s σ H Q I h
  apply wpAny_Call_Name_kw (ld_glob I gl hm ?_ hdb)
  exact PySem.W.callWith_K0 I.kIn hk (runG (E := E) (us := []) F hg hr hb hd I .nil h)
end

/-! ## the law's own call -/
section
variable {P : Program} {w : World} {K : PySem.W.Frag} {mg mb : Str → Option Value} {k : Nat} {fa a : Addr} {fd : FuncData} {x : Str} {sp : Sp} {s₁ : Shared} {vs : List Value} {ns : List Int}
abbrev LawEnd (s₁ : Shared) : Result → Shared → Prop := fun r s' => r = .ok (.ret (.bool true)) ∧ OldK s₁.heap s'.heap ∧ s'.os = s₁.os ∧ AllBare s'.gens
theorem lawG (kin : K.In s₁.heap) (hns : s₁.heap.Ns mainGlobals mg) (hb : s₁.heap.Ns builtinsNs mb) (hbb : ∀ x : Str, x ≠ "__name__" → mb x = bootBuiltins x) (nolim : s₁.heap.NoLimit) (ng : s₁.gens = #[])
    (ha : s₁.heap.get? a = some { cls := .type "list", data := .seq vs.toArray }) (intsOk : IntsAre vs ns) (short : ns.length ≤ sizeLine) (hr : Room k callerA)
    (F : ∀ base : Heap, K.In base → base.Ns mainGlobals mg → FnG P w K mg base k fa fd [x] sp) (binds : ∀ (s : Shared) (u : Value), BindsTo s fd ⟨[u], []⟩ [(x, u)])
    (hsp : ∀ H : Hp, Only H → SqL K H a (ns.map V.int) → sp [.ref a] H (fun v _ => v = .bl true) fun _ _ _ => False) :
    codeAny (model P w) callerA (.call (.ref fa) ⟨[.ref a], []⟩) (LawEnd s₁) s₁ := by
  have rel := vals_ints intsOk
  have ll := intsOk.length
  -- the promise, from a heap that knows the script at most
  have main : ∀ H : Hp, Only H → SqL K H a (ns.map V.int) → HOk P w H s₁.heap → (∀ b, H b ≠ none → b = a ∧ K.lookup a = none) → codeAny (model P w) callerA (.call (.ref fa) ⟨[.ref a], []⟩) (LawEnd s₁) s₁ := by
    intro H only sq ok atA
    have isA : ∀ {b : Addr} {u : HO}, H b = some u → b = a ∧ K.lookup a = none := fun {b u} z => atA b (by rw [z]; exact fun c => nomatch c)
    have hid : ∀ {b : Addr} {m : Str → Option Value}, s₁.heap.Ns b m → (hidT s₁.heap H).Ns b m := by
      rintro b m ⟨o, es, ep, z, d, rr⟩
      refine ⟨o, es, ep, hidT_get z ?_, d, rr⟩
      match hq : H b with
      | none => rfl
      | some u =>
        have hba := (isA hq).1
        rw [hba, ha] at z
        cases z
        exact absurd (show Data.seq vs.toArray _ = Data.dict es ep from d) (fun c => nomatch c)
    have kin' : K.In (hidT s₁.heap H) := by
      intro b o z
      refine hidT_get (kin b o z) ?_
      match hq : H b with
      | none => rfl
      | some u =>
        obtain ⟨e1, e2⟩ := isA hq
        rw [e1, e2] at z
        cases z
    have md : Mod K mg (hidT s₁.heap H) := by
      obtain ⟨mc, l1, l2⟩ := nolim
      exact ⟨kin', hid hns, ⟨mb, hid hb, hbb⟩, ⟨mc, hid l1, l2⟩⟩
    have env0 : Env0 P w K mg (hidT s₁.heap H) callerA [] s₁ H :=
      ⟨rfl, md, fun b o z => of_hidT z, Nat.le_of_eq (hidT_size _ _), trivial, (fun b z => nomatch (show b ∈ ([] : List Addr) from z)), ok, .of_eq ng⟩
    refine codeAny_mono ((F _ kin' (hid hns)).run callerA [] s₁ H ⟨[.ref a], []⟩ [.ref a] [.ref a] _ _ rfl hr env0 (binds s₁ (.ref a)) (.cons rfl .nil) (hsp H only sq)) ?_
    intro res s' hres
    match res, hres with
    | .ok (.ret u), ⟨v, H', os', bare', un', ok', rv, isT⟩ =>
      cases (show v = .bl true from isT)
      cases (show u = Value.bool true from rv)
      refine ⟨rfl, OldK.of_keep ?_, os', bare'⟩
      intro b o z
      match hq : H b with
      | none => exact un'.keep b o z hq (fun c => nomatch (show b ∈ ([] : List Addr) from c)) (fun c => nomatch c)
      | some u =>
        rcases only b with c | ⟨ob, xs, c⟩
        · rw [hq] at c
          cases c
        · have now := (ok' b _ (un'.frzs b ob _ c)).1
          have was := (ok b _ c).1
          rw [z] at was
          cases was
          exact now
  by_cases hk : K.lookup a = none
  · let H₀ : Hp := fun b => if b = a then some (.frz { cls := .type "list", data := .seq vs.toArray } (.lst (ns.map V.int))) else none
    have at0 : ∀ {b u}, H₀ b = some u → b = a ∧ u = .frz { cls := .type "list", data := .seq vs.toArray } (.lst (ns.map V.int)) := by
      intro b u z
      by_cases c : b = a
      · exact ⟨c, (Option.some.inj ((if_pos c).symm.trans z)).symm⟩
      · exact nomatch (if_neg c).symm.trans z
    refine main H₀ (fun b => ?_) (Or.inl (Or.inr ⟨_, if_pos rfl⟩)) (fun b u z => ?_) (fun b z => ?_)
    · by_cases c : b = a
      · exact Or.inr ⟨_, _, if_pos c⟩
      · exact Or.inl (if_neg c)
    · obtain ⟨e1, e2⟩ := at0 z
      rw [e1, e2]
      exact ⟨ha, by rw [List.length_map]; exact short, vs, _, rel, ha⟩
    · match hq : H₀ b with
      | none => exact absurd hq z
      | some u => exact ⟨(at0 hq).1, hk⟩
  · obtain ⟨o, ho⟩ := Option.ne_none_iff_exists'.mp hk
    have z := kin a o ho
    rw [ha] at z
    cases z
    exact main (fun _ => none) (fun _ => Or.inl rfl) (Or.inr ⟨_, vs.toArray, _, ho, rfl, rfl, rfl, by rw [List.size_toArray, ll]; exact short, by simpa using rel⟩)
      (fun b u c => nomatch (show (none : Option HO) = some u from c)) (fun b c => absurd rfl c)
end
/-- the goal behind the head, from the law's promise -/
theorem walkG {l : PySem.W.OpenLaw} {n k : Nat} {q : Program} {loose : List Str} {XP : (Str → Option Value) → Heap → Prop} {YP : World → Heap → Prop} {d : DefRec} {K : Params → PySem.W.Frag} {sp : PySem.W.Frag → Sp} {x : Str}
    (most : l.most = some n) (most' : n ≤ sizeLine) (nodef : d.params.defaults = []) (room : Room k callerA) (kin : ∀ (w : World) (h : Heap), YP w h → (K w.params).In h)
    (F : ∀ (w : World) (mg : Str → Option Value) (fa : Addr) (h : Heap), (K w.params).In h → h.Ns mainGlobals mg → mg d.name = some (.ref fa) →
      ∃ fd : FuncData, (∀ (s : Shared) (u : Value), BindsTo s fd ⟨[u], []⟩ [(x, u)]) ∧ ∀ base : Heap, (K w.params).In base → base.Ns mainGlobals mg → FnG l.prog w (K w.params) mg base k fa fd [x] (sp (K w.params)))
    (hsp : ∀ (K : PySem.W.Frag) (H : Hp) (a : Addr) (ns : List Int), ns.length ≤ n → Only H → SqL K H a (ns.map V.int) → sp K [.ref a] H (fun v _ => v = .bl true) fun _ _ _ => False) :
    PySem.W.WalkO q loose XP YP l.row.toRowW d [] (fun f vs => PySem.call f vs) := by
  refine Att.attach_call most nodef ?_
  intro w s₀ s₁ mg mb fa o pm cd doc a vs ns G Y ho hd hcd hmg hobj hints hlen hg
  have kk := kin w _ Y
  obtain ⟨fd, bb, FF⟩ := F w mg fa _ kk G.T.g hmg
  exact lawG kk G.T.g G.T.b G.T.builtins G.T.nolimit hg hobj hints (Nat.le_trans hlen most') room FF bb (fun H only sq => hsp _ H a ns hlen only sq)
end Cr

set_option Elab.async false
set_option linter.all false
set_option maxRecDepth 100000
set_option maxHeartbeats 4000000
namespace Cr
open PySem PySem.Spec PyProof.Rows L2

/-! ## worlds: what may change, and what holds of it -/
structure Wd where
  M : Addr → Prop
  I : Hp → Prop
  has : ∀ H a, I H → M a → H a ≠ none
  loc : ∀ H H', I H → (∀ a, M a → H' a = H a) → I H'
theorem Wd.mono (W : Wd) (H H' : Hp) (i : W.I H) (x : ∀ a o, H a = some o → H' a = some o) : W.I H' := W.loc H H' i fun a m => by
  match hq : H a with
  | none => exact absurd hq (W.has H a i m)
  | some o => exact x a o hq
def Wx (W : Wd) (H H' : Hp) : Prop := ∀ a o, ¬ W.M a → H a = some o → H' a = some o
theorem Wx.refl (W : Wd) (H : Hp) : Wx W H H := fun _ _ _ h => h
theorem Wx.trans {W : Wd} {H H1 H2 : Hp} (a : Wx W H H1) (b : Wx W H1 H2) : Wx W H H2 := fun p o n h => b p o n (a p o n h)
/-- nothing changes -/
def w0 : Wd := ⟨fun _ => False, fun _ => True, fun _ _ _ h => h.elim, fun _ _ _ _ => trivial⟩
def Xt (H H' : Hp) : Prop := ∀ a o, H a = some o → H' a = some o
theorem Xt.refl (H : Hp) : Xt H H := fun _ _ h => h
theorem Xt.trans {H H1 H2 : Hp} (a : Xt H H1) (b : Xt H1 H2) : Xt H H2 := fun p o h => b p o (a p o h)
theorem Xt.wx {H H' : Hp} (W : Wd) (a : Xt H H') : Wx W H H' := fun p o _ h => a p o h
theorem Xt.new {H : Hp} {p : Addr} {o : HO} (h : H p = none) : Xt H (upd H p o) := fun a u z => by
  rw [upd_ne (ne_of_none z h)]
  exact z
theorem wx0 {H H' : Hp} (a : Wx w0 H H') : Xt H H' := fun p o h => a p o (fun z => z) h
theorem Wd.new {W : Wd} {H : Hp} {p : Addr} {o : HO} (i : W.I H) (h : H p = none) : ¬ W.M p ∧ Wx W H (upd H p o) ∧ W.I (upd H p o) :=
  ⟨fun m => W.has H p i m h, (Xt.new h).wx W, W.mono _ _ i (Xt.new h)⟩

/-! ## data in the heap -/
def LA (W : Wd) (_ : PySem.W.Frag) (H : Hp) (a : Addr) (xs : List V) : Prop := ¬ W.M a ∧ H a = some (.lst xs)
def TA' (W : Wd) (K : PySem.W.Frag) (H : Hp) (a : Addr) (xs : List V) : Prop := (¬ W.M a ∧ H a = some (.tup xs)) ∨ SqT K (fun _ => none) a xs
section
variable {W W' : Wd} {K : PySem.W.Frag} {H H' : Hp} {a : Addr} {xs : List V}
theorem rd_none {u : HO} (h : Rd (fun _ => none) a u) : False := by
  rcases h with h | ⟨o, h⟩
  · exact nomatch (show (none : Option HO) = some u from h)
  · exact nomatch (show (none : Option HO) = some (.frz o u) from h)
theorem LA.sq (h : LA W K H a xs) : SqL K H a xs := SqL.of h.2
theorem TA'.sq (h : TA' W K H a xs) : SqT K H a xs := by
  rcases h with ⟨_, h⟩ | h
  · exact SqT.of h
  · rcases h with h | h
    · exact (rd_none h).elim
    · exact Or.inr h
theorem LA.mono (x : Wx W H H') (h : LA W K H a xs) : LA W K H' a xs := ⟨h.1, x _ _ h.1 h.2⟩
theorem TA'.mono (x : Wx W H H') (h : TA' W K H a xs) : TA' W K H' a xs := h.imp (fun ⟨n, z⟩ => ⟨n, x _ _ n z⟩) id
end
def keyD : Key → PyData
  | .inl i => .int i
  | .inr x => .str x
mutual
inductive Dn (W : Wd) (K : PySem.W.Frag) (H : Hp) : V → PyData → Prop
  | non : Dn W K H .non .none
  | bl (b : Bool) : Dn W K H (.bl b) (.bool b)
  | int (i : Int) : Dn W K H (.int i) (.int i)
  | str (x : Str) : Dn W K H (.str x) (.str x)
  | lst {a : Addr} {xs : List V} {ds : List PyData} (h : LA W K H a xs) (r : DnAll W K H xs ds) : Dn W K H (.ref a) (.list ds)
  | tup {a : Addr} {xs : List V} {ds : List PyData} (h : TA' W K H a xs) (r : DnAll W K H xs ds) : Dn W K H (.ref a) (.tuple ds)
  | dct {a : Addr} {kvs : List (Key × V)} {es : List (PyData × PyData)} (n : ¬ W.M a) (h : H a = some (.dK kvs)) (r : DnKv W K H kvs es) : Dn W K H (.ref a) (.dict es)
inductive DnAll (W : Wd) (K : PySem.W.Frag) (H : Hp) : List V → List PyData → Prop
  | nil : DnAll W K H [] []
  | cons {v : V} {vs : List V} {d : PyData} {ds : List PyData} (h : Dn W K H v d) (t : DnAll W K H vs ds) : DnAll W K H (v :: vs) (d :: ds)
inductive DnKv (W : Wd) (K : PySem.W.Frag) (H : Hp) : List (Key × V) → List (PyData × PyData) → Prop
  | nil : DnKv W K H [] []
  | cons {k : Key} {v : V} {kvs : List (Key × V)} {d : PyData} {es : List (PyData × PyData)} (h : Dn W K H v d) (t : DnKv W K H kvs es) : DnKv W K H ((k, v) :: kvs) ((keyD k, d) :: es)
end
section
variable {W : Wd} {K : PySem.W.Frag} {H H' : Hp}
mutual
theorem Dn.mono (x : Wx W H H') : ∀ {d : PyData} {v : V}, Dn W K H v d → Dn W K H' v d
  | .none, _, h => by cases h; exact .non
  | .bool _, _, h => by cases h; exact .bl _
  | .int _, _, h => by cases h; exact .int _
  | .str _, _, h => by cases h; exact .str _
  | .list ds, _, h => by
    cases h with
    | lst a r => exact .lst (a.mono x) (DnAll.mono x r)
  | .tuple ds, _, h => by
    cases h with
    | tup a r => exact .tup (a.mono x) (DnAll.mono x r)
  | .dict es, _, h => by
    cases h with
    | dct n a r => exact .dct n (x _ _ n a) (DnKv.mono x r)
theorem DnAll.mono (x : Wx W H H') : ∀ {ds : List PyData} {vs : List V}, DnAll W K H vs ds → DnAll W K H' vs ds
  | [], _, h => by cases h; exact .nil
  | d :: ds, _, h => by
    cases h with
    | cons a t => exact .cons (Dn.mono x a) (DnAll.mono x t)
theorem DnKv.mono (x : Wx W H H') : ∀ {es : List (PyData × PyData)} {kvs : List (Key × V)}, DnKv W K H kvs es → DnKv W K H' kvs es
  | [], _, h => by cases h; exact .nil
  | (_, d) :: es, _, h => by
    cases h with
    | cons a t => exact .cons (Dn.mono x a) (DnKv.mono x t)
end
theorem DnAll.length : ∀ {ds : List PyData} {vs : List V}, DnAll W K H vs ds → vs.length = ds.length
  | [], _, .nil => rfl
  | _ :: _, _, .cons _ t => congrArg (· + 1) (DnAll.length t)
theorem DnAll.get : ∀ {ds : List PyData} {vs : List V} {i : Nat} {d : PyData}, DnAll W K H vs ds → ds[i]? = some d → ∃ v, vs[i]? = some v ∧ Dn W K H v d
  | [], _, i, _, _, e => by simp at e
  | x :: ds, _, i, d, h, e => by
    cases h with
    | cons a t =>
      cases i with
      | zero =>
        cases e
        exact ⟨_, rfl, a⟩
      | succ i => exact DnAll.get (i := i) t e
theorem DnAll.getV : ∀ {ds : List PyData} {vs : List V} {i : Nat} {v : V}, DnAll W K H vs ds → vs[i]? = some v → ∃ d, ds[i]? = some d ∧ Dn W K H v d
  | [], _, i, _, h, e => by
    cases h
    simp at e
  | x :: ds, _, i, d, h, e => by
    cases h with
    | cons a t =>
      cases i with
      | zero =>
        cases e
        exact ⟨_, rfl, a⟩
      | succ i => exact DnAll.getV (i := i) t e
theorem DnAll.append : ∀ {ds es : List PyData} {vs us : List V}, DnAll W K H vs ds → DnAll W K H us es → DnAll W K H (vs ++ us) (ds ++ es)
  | [], _, _, _, .nil, h => h
  | _ :: _, _, _, _, .cons a t, h => .cons a (DnAll.append t h)
theorem DnAll.take : ∀ {ds : List PyData} {vs : List V} (n : Nat), DnAll W K H vs ds → DnAll W K H (vs.take n) (ds.take n)
  | _, _, 0, _ => .nil
  | [], _, _ + 1, .nil => .nil
  | _ :: _, _, n + 1, .cons a t => .cons a (DnAll.take n t)
theorem DnAll.drop : ∀ {ds : List PyData} {vs : List V} (n : Nat), DnAll W K H vs ds → DnAll W K H (vs.drop n) (ds.drop n)
  | _, _, 0, h => h
  | [], _, _ + 1, .nil => .nil
  | _ :: _, _, n + 1, .cons _ t => DnAll.drop n t
theorem DnAll.rep {ds : List PyData} {vs : List V} (h : DnAll W K H vs ds) : ∀ n : Nat, DnAll W K H (List.replicate n vs).flatten (List.replicate n ds).flatten
  | 0 => .nil
  | n + 1 => by
    rw [List.replicate_succ, List.replicate_succ, List.flatten_cons, List.flatten_cons]
    exact h.append (DnAll.rep h n)
theorem DnAll.reverse {ds : List PyData} {vs : List V} (h : DnAll W K H vs ds) : DnAll W K H vs.reverse ds.reverse := by
  induction ds generalizing vs with
  | nil => cases h; exact .nil
  | cons d ds ih =>
    cases h with
    | cons a t =>
      rw [List.reverse_cons, List.reverse_cons]
      exact (ih t).append (.cons a .nil)
end
mutual
def noDict : PyData → Bool
  | .none | .bool _ | .int _ | .str _ => true
  | .list xs | .tuple xs => noDictAll xs
  | .dict _ => false
def noDictAll : List PyData → Bool
  | [] => true
  | x :: xs => noDict x && noDictAll xs
end
section
variable {X : Cx} {pins : List (Addr × Obj)} {σ : L2.St} {H : Hp} {s : Shared} {W : Wd}
mutual
theorem Dn.dp {K : PySem.W.Frag} : ∀ {d : PyData} {v : V}, Dn W K H v d → noDict d = true → Dp K H v d
  | .none, _, h, _ => by cases h; exact .non
  | .bool _, _, h, _ => by cases h; exact .bl _
  | .int _, _, h, _ => by cases h; exact .int _
  | .str _, _, h, _ => by cases h; exact .str _
  | .list ds, _, h, n => by
    cases h with
    | lst a r => exact .lst a.sq (DnAll.dp r (by simpa [noDict] using n))
  | .tuple ds, _, h, n => by
    cases h with
    | tup a r => exact .tup a.sq (DnAll.dp r (by simpa [noDict] using n))
  | .dict _, _, _, n => by simp [noDict] at n
theorem DnAll.dp {K : PySem.W.Frag} : ∀ {ds : List PyData} {vs : List V}, DnAll W K H vs ds → noDictAll ds = true → DpAll K H vs ds
  | [], _, h, _ => by cases h; exact .nil
  | d :: ds, _, h, n => by
    have n2 : noDict d = true ∧ noDictAll ds = true := by simpa [noDictAll] using n
    cases h with
    | cons a t => exact .cons (Dn.dp a n2.1) (DnAll.dp t n2.2)
end
end
mutual
theorem noDict_has : ∀ d : PyData, noDict d = true → d.hasDict = false
  | .none, _ => by simp only [PyData.hasDict]
  | .bool _, _ => by simp only [PyData.hasDict]
  | .int _, _ => by simp only [PyData.hasDict]
  | .str _, _ => by simp only [PyData.hasDict]
  | .list xs, n => by
    simp only [PyData.hasDict]
    exact noDict_hasAll xs (by simpa [noDict] using n)
  | .tuple xs, n => by
    simp only [PyData.hasDict]
    exact noDict_hasAll xs (by simpa [noDict] using n)
  | .dict _, n => by simp [noDict] at n
theorem noDict_hasAll : ∀ xs : List PyData, noDictAll xs = true → PyData.hasDictAll xs = false
  | [], _ => by simp only [PyData.hasDictAll]
  | x :: xs, n => by
    have n2 : noDict x = true ∧ noDictAll xs = true := by simpa [noDictAll] using n
    simp only [PyData.hasDictAll, noDict_has x n2.1, noDict_hasAll xs n2.2, Bool.or_self]
end

/-! ## slots -/
inductive Sl where
  | dat (d : PyData)
  | raw (v : V)
  | any
  | ml (p : Addr) (us : List V) (ds : List PyData)
  | od (p : Addr) (o : HO) (d : PyData)
/-- what an own dict holds -/
def OD (W : Wd) (K : PySem.W.Frag) (H : Hp) : HO → PyData → Prop
  | .lst us, .list ds => DnAll W K H us ds
  | .dK kvs, .dict es => DnKv W K H kvs es
  | _, _ => False
def Dv (W : Wd) (K : PySem.W.Frag) (H : Hp) (o : Option V) : Sl → Prop
  | .dat d => ∃ v, o = some v ∧ Dn W K H v d
  | .raw v => o = some v
  | .any => True
  | .ml p us ds => o = some (.ref p) ∧ DnAll W K H us ds
  | .od p u d => o = some (.ref p) ∧ OD W K H u d
theorem OD.mono {W : Wd} {K : PySem.W.Frag} {H H' : Hp} (x : Wx W H H') : ∀ {o : HO} {d : PyData}, OD W K H o d → OD W K H' o d := by
  intro o d h
  unfold OD at h ⊢
  split at h
  · exact DnAll.mono x h
  · exact DnKv.mono x h
  · exact h.elim
theorem Dv.mono {W : Wd} {K : PySem.W.Frag} {H H' : Hp} {o : Option V} (x : Wx W H H') : ∀ {s : Sl}, Dv W K H o s → Dv W K H' o s
  | .dat _, ⟨v, e, h⟩ => ⟨v, e, h.mono x⟩
  | .raw _, h => h
  | .any, h => h
  | .ml _ _ _, ⟨e, h⟩ => ⟨e, DnAll.mono x h⟩
  | .od _ _ _, ⟨e, h⟩ => ⟨e, OD.mono x h⟩
def Sd (W : Wd) (K : PySem.W.Frag) (H : Hp) : L2.St → List Sl → Prop
  | [], [] => True
  | o :: σ, s :: env => Dv W K H o s ∧ Sd W K H σ env
  | [], _ :: _ => False
  | _ :: _, [] => False
section
variable {W : Wd} {K : PySem.W.Frag} {H H' : Hp}
theorem Sd.mono (x : Wx W H H') : ∀ {σ : L2.St} {env : List Sl}, Sd W K H σ env → Sd W K H' σ env
  | [], [], h => h
  | _ :: _, _ :: _, ⟨a, t⟩ => ⟨a.mono x, Sd.mono x t⟩
  | [], _ :: _, h => h.elim
  | _ :: _, [], h => h.elim
theorem Sd.get : ∀ {σ : L2.St} {env : List Sl} {i : Nat} {s : Sl}, Sd W K H σ env → env[i]? = some s → ∃ o, σ[i]? = some o ∧ Dv W K H o s
  | _ :: _, _ :: _, 0, _, ⟨a, _⟩, e => by
    cases e
    exact ⟨_, rfl, a⟩
  | _ :: _, _ :: _, i + 1, _, ⟨_, t⟩, e => Sd.get (i := i) t e
  | [], _ :: _, _, _, h, _ => h.elim
  | _ :: _, [], _, _, h, _ => h.elim
theorem Sd.set {v : V} {s : Sl} (hv : Dv W K H (some v) s) : ∀ {σ : L2.St} {env : List Sl} (i : Nat), Sd W K H σ env → Sd W K H (σ.set i (some v)) (env.set i s)
  | [], [], _, h => h
  | _ :: _, _ :: _, 0, ⟨_, t⟩ => ⟨hv, t⟩
  | _ :: _, _ :: _, i + 1, ⟨a, t⟩ => ⟨a, Sd.set hv i t⟩
  | [], _ :: _, _, h => h.elim
  | _ :: _, [], _, h => h.elim
theorem Sd.wipe1 : ∀ {σ : L2.St} {env : List Sl} (i : Nat), Sd W K H σ env → Sd W K H (σ.set i none) (env.set i .any)
  | [], [], _, h => h
  | _ :: _, _ :: _, 0, ⟨_, t⟩ => ⟨trivial, t⟩
  | _ :: _, _ :: _, i + 1, ⟨a, t⟩ => ⟨a, Sd.wipe1 i t⟩
  | [], _ :: _, _, h => h.elim
  | _ :: _, [], _, h => h.elim
def wipeE (env : List Sl) : List Nat → List Sl
  | [] => env
  | v :: vs => (wipeE env vs).set v .any
theorem Sd.wipe {σ : L2.St} {env : List Sl} (h : Sd W K H σ env) : ∀ vs : List Nat, Sd W K H (L2.wipe σ vs) (wipeE env vs)
  | [] => h
  | v :: vs => (Sd.wipe h vs).wipe1 v
theorem Sd.nones : ∀ n : Nat, Sd W K H (List.replicate n none) (List.replicate n .any)
  | 0 => trivial
  | n + 1 => ⟨trivial, Sd.nones n⟩
end

/-! ## families of contexts, and the weakest readings -/
/-- what a scope says of a name, as a Bool -/
def visB (sc : Scope) (x : Str) : Bool := sc.names.lookup x == some .local || sc.names.lookup x == some .cell || sc.names.lookup x == some .free
def locB (sc : Scope) (x : Str) : Bool := sc.names.lookup x == some .local || sc.names.lookup x == some .cell
def lclB (sc : Scope) (x : Str) : Bool := sc.names.lookup x == some .local
def glB (sc : Scope) (x : Str) : Bool := sc.names.lookup x == some .globalImplicit
theorem vis_of {sc sc' : Scope} {x : Str} (e : sc' = sc) (h : visB sc x = true) : Vis sc' x := by
  subst e
  unfold visB at h
  rw [Bool.or_eq_true, Bool.or_eq_true, beq_iff_eq, beq_iff_eq, beq_iff_eq] at h
  rcases h with (h | h) | h
  · exact Or.inl h
  · exact Or.inr (Or.inl h)
  · exact Or.inr (Or.inr h)
theorem loc_of {sc sc' : Scope} {x : Str} (e : sc' = sc) (h : locB sc x = true) : Loc sc' x := by
  subst e
  unfold locB at h
  rwa [Bool.or_eq_true, beq_iff_eq, beq_iff_eq] at h
theorem lcl_of {sc sc' : Scope} {x : Str} (e : sc' = sc) (h : lclB sc x = true) : sc'.names.lookup x = some .local := by
  subst e
  exact beq_iff_eq.mp h
theorem gl_of {X : Cx} {sc : Scope} {x : Str} (e : X.env.scope = sc) (h : glB sc x = true) : Gl X x := by
  subst e
  exact beq_iff_eq.mp h
structure Fam {ι : Type} (P : Program) (w : World) (K : PySem.W.Frag) (mg : Str → Option Value) (base : Heap) (N : List Str) (k : Nat) (sc : Scope) (F : ι → Cx) : Prop where
  es : ∀ i, (F i).env.scope = sc
  kd : sc.kind = .function
  pr : ∀ i, (F i).prog = P
  wo : ∀ i, (F i).w = w
  kk : ∀ i, (F i).K = K
  mg : ∀ i, (F i).mg = mg
  ba : ∀ i, (F i).base = base
  nn : ∀ i, (F i).N = N
  nd : N.Nodup
  ca : ∀ i, (F i).calm = true
  gu : ∀ i, (F i).A.guards = some []
  ro : ∀ i, Room k (F i).A
section
variable {ι : Type} (F : ι → Cx)
def WE (e : Expr) : TE := fun σ H Q => ∃ te, (∀ i, PE (F i) e te) ∧ te σ H Q
def WT (e : Expr) : TT := fun σ H Q => ∃ te, (∀ i, PT (F i) e te) ∧ te σ H Q
def WW (e : Expr) : TT := fun σ H Q => ∃ te, (∀ i, PW (F i) e te) ∧ te σ H Q
def WA (es : List Expr) : TA := fun σ H Q => ∃ te, (∀ i, PA (F i) es te) ∧ te σ H Q
def WS (ss : List Stmt) : TS := fun D σ H => ∃ t, (∀ i, PSs (F i) ss t) ∧ t D σ H
def WG (tg : Expr) : TG := fun v σ H Q => ∃ g, (∀ i, PG (F i) tg g) ∧ g v σ H Q
def WGs (ts : List Expr) : TGs := fun vs σ H Q => ∃ g, (∀ i, PGs (F i) ts g) ∧ g vs σ H Q
def WI (tg it : Expr) : TI := fun σ H R => ∃ wi, (∀ i, PI (F i) tg it wi) ∧ wi σ H R
variable {F}
theorem we_pe {e : Expr} (i : ι) : PE (F i) e (WE F e) := ⟨fun pins s σ H Q I h => by
  obtain ⟨t, ht, q⟩ := h
  exact (ht i).run pins s σ H Q I q⟩
theorem wt_pt {e : Expr} (i : ι) : PT (F i) e (WT F e) := ⟨fun pins s σ H Q I h => by
  obtain ⟨t, ht, q⟩ := h
  exact (ht i).run pins s σ H Q I q⟩
theorem ww_pw {e : Expr} (i : ι) : PW (F i) e (WW F e) := ⟨fun wh pins s σ H Q I h => by
  obtain ⟨t, ht, q⟩ := h
  exact (ht i).run wh pins s σ H Q I q⟩
theorem wa_pa {es : List Expr} (i : ι) : PA (F i) es (WA F es) := ⟨fun pos pins s σ H Q I h => by
  obtain ⟨t, ht, q⟩ := h
  exact (ht i).run pos pins s σ H Q I q⟩
theorem ws_ps {ss : List Stmt} (i : ι) : PSs (F i) ss (WS F ss) := ⟨fun pins s σ H D I h => by
  obtain ⟨t, ht, q⟩ := h
  exact (ht i).run pins s σ H D I q⟩
theorem wg_pg {tg : Expr} (i : ι) : PG (F i) tg (WG F tg) := ⟨fun pins s σ H v u Q I r h => by
  obtain ⟨t, ht, q⟩ := h
  exact (ht i).run pins s σ H v u Q I r q⟩
theorem wgs_pgs {ts : List Expr} (i : ι) : PGs (F i) ts (WGs F ts) := ⟨fun pins s σ H vs us Q I r h => by
  obtain ⟨t, ht, q⟩ := h
  exact (ht i).run pins s σ H vs us Q I r q⟩
theorem wi_pi {tg it : Expr} (i : ι) : PI (F i) tg it (WI F tg it) := ⟨fun pins s σ H R I h => by
  obtain ⟨t, ht, q⟩ := h
  exact (ht i).run pins s σ H R I q⟩
end

/-! ## judgements -/
section
variable {ι : Type} (F : ι → Cx) (W : Wd) (K : PySem.W.Frag)
/-- e, where the slots stand for env, gives a thing that R holds of -/
def Ev (e : Expr) (env : List Sl) (R : Sl → Prop) : Prop :=
  ∀ (σ : L2.St) (H : Hp), W.I H → Sd W K H σ env → ∀ Q : VK, (∀ v H' r, Wx W H H' → W.I H' → Dv W K H' (some v) r → R r → Q v H') → WE F e σ H Q
def EvA (es : List Expr) (env : List Sl) (R : List Sl → Prop) : Prop :=
  ∀ (σ : L2.St) (H : Hp), W.I H → Sd W K H σ env → ∀ Q : List V → Hp → Prop, (∀ vs H' rs, Wx W H H' → W.I H' → Sd W K H' (vs.map some) rs → R rs → Q vs H') → WA F es σ H Q
def EvT (e : Expr) (env : List Sl) (R : Bool → Prop) : Prop :=
  ∀ (σ : L2.St) (H : Hp), W.I H → Sd W K H σ env → ∀ Q : Bool → Hp → Prop, (∀ b H', Wx W H H' → W.I H' → R b → Q b H') → WT F e σ H Q
def EvW (e : Expr) (env : List Sl) (R : Bool → Prop) : Prop :=
  ∀ (σ : L2.St) (H : Hp), W.I H → Sd W K H σ env → ∀ Q : Bool → Hp → Prop, (∀ b H', Wx W H H' → W.I H' → R b → Q b H') → WW F e σ H Q
/-- a target takes what r tells, the slots then stand for env' -/
def Tg (tg : Expr) (r : Sl) (env env' : List Sl) : Prop :=
  ∀ (v : V) (σ : L2.St) (H : Hp), W.I H → Sd W K H σ env → Dv W K H (some v) r → ∀ Q : L2.St → Hp → Prop, (∀ σ' H', Wx W H H' → W.I H' → Sd W K H' σ' env' → Q σ' H') → WG F tg v σ H Q
def Tgs (ts : List Expr) (rs : List Sl) (env env' : List Sl) : Prop :=
  ∀ (vs : List V) (σ : L2.St) (H : Hp), W.I H → Sd W K H σ env → Sd W K H (vs.map some) rs → ∀ Q : L2.St → Hp → Prop, (∀ σ' H', Wx W H H' → W.I H' → Sd W K H' σ' env' → Q σ' H') → WGs F ts vs σ H Q
structure Post where
  nx : List Sl → Prop
  rt : Sl → Prop
  bk : List Sl → Prop := fun _ => False
  ct : List Sl → Prop := fun _ => False
structure Good (P : Post) (D : Ends) (H : Hp) : Prop where
  nx : ∀ σ' H' env', Wx W H H' → W.I H' → Sd W K H' σ' env' → P.nx env' → D.nx σ' H'
  rt : ∀ v H' r, Wx W H H' → W.I H' → Dv W K H' (some v) r → P.rt r → D.rt v H'
  bk : ∀ σ' H' env', Wx W H H' → W.I H' → Sd W K H' σ' env' → P.bk env' → D.bk σ' H'
  ct : ∀ σ' H' env', Wx W H H' → W.I H' → Sd W K H' σ' env' → P.ct env' → D.ct σ' H'
def Bd (ss : List Stmt) (env : List Sl) (P : Post) : Prop :=
  ∀ (σ : L2.St) (H : Hp) (D : Ends), W.I H → Sd W K H σ env → Good W K P D H → WS F ss D σ H
end
theorem Good.mono {W : Wd} {K : PySem.W.Frag} {P : Post} {D : Ends} {H H' : Hp} (g : Good W K P D H) (x : Wx W H H') : Good W K P D H' :=
  ⟨fun σ1 H1 e y => g.nx σ1 H1 e (x.trans y), fun v H1 r y => g.rt v H1 r (x.trans y), fun σ1 H1 e y => g.bk σ1 H1 e (x.trans y), fun σ1 H1 e y => g.ct σ1 H1 e (x.trans y)⟩
end Cr

set_option Elab.async false
set_option linter.all false
set_option maxRecDepth 100000
set_option maxHeartbeats 4000000
namespace Cr
open PySem PySem.Spec PyProof.Rows L2

section
variable {ι : Type} {F : ι → Cx} {P : Program} {w : World} {K : PySem.W.Frag} {mg : Str → Option Value} {base : Heap} {N : List Str} {k : Nat} {sc : Scope} {W : Wd} {env : List Sl}
abbrev E1 (F : ι → Cx) (W : Wd) (K : PySem.W.Frag) (e : Expr) (env : List Sl) (r : Sl) : Prop := Ev F W K e env fun s => s = r
abbrev T1 (F : ι → Cx) (W : Wd) (K : PySem.W.Frag) (e : Expr) (env : List Sl) (b : Bool) : Prop := EvT F W K e env fun c => c = b
abbrev A1 (F : ι → Cx) (W : Wd) (K : PySem.W.Frag) (es : List Expr) (env : List Sl) (ds : List PyData) : Prop := EvA F W K es env fun rs => rs = ds.map .dat

theorem Dn.dv {H : Hp} {v : V} {d : PyData} (h : Dn W K H v d) : Dv W K H (some v) (.dat d) := ⟨v, rfl, h⟩
theorem raw_dv {H : Hp} {v : V} : Dv W K H (some v) (.raw v) := rfl
/-! ### weakening -/
theorem Ev.imp {e : Expr} {R R' : Sl → Prop} (h : Ev F W K e env R) (m : ∀ r, R r → R' r) : Ev F W K e env R' := fun σ H i sd Q q => h σ H i sd Q fun v H' r x i' d hr => q v H' r x i' d (m r hr)
theorem EvT.imp {e : Expr} {R R' : Bool → Prop} (h : EvT F W K e env R) (m : ∀ r, R r → R' r) : EvT F W K e env R' := fun σ H i sd Q q => h σ H i sd Q fun b H' x i' hr => q b H' x i' (m b hr)
theorem EvA.imp {es : List Expr} {R R' : List Sl → Prop} (h : EvA F W K es env R) (m : ∀ r, R r → R' r) : EvA F W K es env R' := fun σ H i sd Q q => h σ H i sd Q fun v H' r x i' d hr => q v H' r x i' d (m r hr)
theorem E1.is {e : Expr} {r r' : Sl} (h : E1 F W K e env r) (z : r = r') : E1 F W K e env r' := z ▸ h
theorem T1.is {e : Expr} {b b' : Bool} (h : T1 F W K e env b) (z : b = b') : T1 F W K e env b' := z ▸ h

/-! ### names and constants -/
theorem ev_var (fm : Fam P w K mg base N k sc F) {x : Str} {pos : Pos} {d : PyData} (j : Nat) (hN : N[j]? = some x) (he : env[j]? = some (.dat d)) (hv : visB sc x = true := by decide +kernel)
    (hd : (x == ("__debug__" : Str)) = false := by decide) (hc : (x == ("__classdict__" : Str)) = false := by decide) : E1 F W K (.Name x pos) env (.dat d) := by
  intro σ H i sd Q q
  obtain ⟨o, ho, v, rfl, dn⟩ := sd.get he
  exact ⟨tVar j, fun z => pe_var (by rw [fm.nn z]; exact hN) (vis_of (fm.es z) hv) hd hc, v, ho, q v H _ (Wx.refl W H) i dn.dv rfl⟩
theorem ev_raw (fm : Fam P w K mg base N k sc F) {x : Str} {pos : Pos} {v : V} (j : Nat) (hN : N[j]? = some x) (he : env[j]? = some (.raw v)) (hv : visB sc x = true := by decide +kernel)
    (hd : (x == ("__debug__" : Str)) = false := by decide) (hc : (x == ("__classdict__" : Str)) = false := by decide) : E1 F W K (.Name x pos) env (.raw v) := by
  intro σ H i sd Q q
  obtain ⟨o, ho, hr⟩ := sd.get he
  have hr2 : o = some v := hr
  subst hr2
  exact ⟨tVar j, fun z => pe_var (by rw [fm.nn z]; exact hN) (vis_of (fm.es z) hv) hd hc, v, ho, q v H _ (Wx.refl W H) i raw_dv rfl⟩
theorem ev_c {e : Expr} {v : V} {d : PyData} (h : ∀ i, PE (F i) e (tC v)) (dn : ∀ H, Dn W K H v d) : E1 F W K e env (.dat d) := by
  intro σ H i sd Q q
  exact ⟨tC v, h, q v H _ (Wx.refl W H) i (dn H).dv rfl⟩
theorem ev_int {n : Int} {j pos} : E1 F W K (.Constant (.int n) j pos) env (.dat (.int n)) := ev_c (fun _ => pe_int) fun _ => .int n
theorem ev_bl {b : Bool} {j pos} : E1 F W K (.Constant (.bool b) j pos) env (.dat (.bool b)) := ev_c (fun _ => pe_bl) fun _ => .bl b
theorem ev_non {j pos} : E1 F W K (.Constant .none j pos) env (.dat .none) := ev_c (fun _ => pe_non) fun _ => .non
theorem ev_str {x j pos} : E1 F W K (.Constant (.str x) j pos) env (.dat (.str x)) := ev_c (fun _ => pe_str) fun _ => .str _
/-- a constant of the module: DC v d tells what it is in any heap -/
def DC (K : PySem.W.Frag) (v : V) (d : PyData) : Prop := ∀ W H, Dn W K H v d
theorem ev_glob (fm : Fam P w K mg base N k sc F) {x : Str} {pos : Pos} {v : V} {u : Value} {d : PyData} (hm : mg x = some u) (r : RelV v u) (dn : DC K v d) (hg : glB sc x = true := by decide +kernel) (hd : (x == ("__debug__" : Str)) = false := by decide) : E1 F W K (.Name x pos) env (.dat d) :=
  ev_c (fun i => pe_glob (gl_of (fm.es i) hg) (by rw [fm.mg i]; exact hm) r hd) fun H => dn W H

/-! ### argument lists and displays -/
theorem ea_nil : EvA F W K [] env fun rs => rs = [] := by
  intro σ H i sd Q q
  exact ⟨tNil, fun _ => pa_nil, q [] H [] (Wx.refl W H) i trivial rfl⟩
theorem ea_cons {e : Expr} {es : List Expr} {R : Sl → Prop} {Rs : List Sl → Prop} (h : Ev F W K e env R) (hs : EvA F W K es env Rs) (st : ∀ i, starEach (e :: es) (F i).env = (false, eval e (F i).env) :: starEach es (F i).env := by intro _; rfl) :
    EvA F W K (e :: es) env fun rs => ∃ r t, rs = r :: t ∧ R r ∧ Rs t := by
  intro σ H i sd Q q
  refine ⟨tCons (WE F e) (WA F es), fun z => pa_cons (we_pe z) (wa_pa z) (st z), ?_⟩
  refine h σ H i sd _ fun v H1 r x1 i1 d1 h1 => ?_
  refine hs σ H1 i1 (sd.mono x1) _ fun vs H2 rs x2 i2 d2 h2 => ?_
  exact q (v :: vs) H2 (r :: rs) (x1.trans x2) i2 ⟨d1.mono x2, d2⟩ ⟨r, rs, rfl, h1, h2⟩
theorem a_nil : A1 F W K [] env [] := ea_nil
theorem a_cons {e : Expr} {es : List Expr} {d : PyData} {ds : List PyData} (h : E1 F W K e env (.dat d)) (hs : A1 F W K es env ds) (st : ∀ i, starEach (e :: es) (F i).env = (false, eval e (F i).env) :: starEach es (F i).env := by intro _; rfl) : A1 F W K (e :: es) env (d :: ds) :=
  (ea_cons h hs st).imp fun rs ⟨r, t, e1, e2, e3⟩ => by rw [e1, e2, e3]; rfl
theorem r_cons {e : Expr} {es : List Expr} {v : V} {ds : List PyData} (h : E1 F W K e env (.raw v)) (hs : A1 F W K es env ds) (st : ∀ i, starEach (e :: es) (F i).env = (false, eval e (F i).env) :: starEach es (F i).env := by intro _; rfl) :
    EvA F W K (e :: es) env fun rs => rs = .raw v :: ds.map .dat :=
  (ea_cons h hs st).imp fun rs ⟨r, t, e1, e2, e3⟩ => by rw [e1, e2, e3]
theorem dn_of_sd {H : Hp} : ∀ {vs : List V} {ds : List PyData}, Sd W K H (vs.map some) (ds.map .dat) → DnAll W K H vs ds
  | [], [], _ => .nil
  | v :: vs, d :: ds, ⟨⟨u, e, a⟩, t⟩ => by
    cases e
    exact .cons a (dn_of_sd t)
  | [], _ :: _, h => h.elim
  | _ :: _, [], h => h.elim
theorem sd_of_dn {H : Hp} : ∀ {vs : List V} {ds : List PyData}, DnAll W K H vs ds → Sd W K H (vs.map some) (ds.map .dat)
  | [], [], _ => trivial
  | v :: vs, d :: ds, .cons a t => ⟨⟨v, rfl, a⟩, sd_of_dn t⟩
theorem new_tup {H : Hp} {p : Addr} {vs : List V} {ds : List PyData} (i : W.I H) (hp : H p = none) (h : DnAll W K H vs ds) : Wx W H (upd H p (.tup vs)) ∧ W.I (upd H p (.tup vs)) ∧ Dn W K (upd H p (.tup vs)) (.ref p) (.tuple ds) := by
  obtain ⟨n, x, i'⟩ := W.new (o := .tup vs) i hp
  exact ⟨x, i', .tup (Or.inl ⟨n, upd_same⟩) (h.mono x)⟩
theorem new_lst {H : Hp} {p : Addr} {vs : List V} {ds : List PyData} (i : W.I H) (hp : H p = none) (h : DnAll W K H vs ds) : Wx W H (upd H p (.lst vs)) ∧ W.I (upd H p (.lst vs)) ∧ Dn W K (upd H p (.lst vs)) (.ref p) (.list ds) := by
  obtain ⟨n, x, i'⟩ := W.new (o := .lst vs) i hp
  exact ⟨x, i', .lst ⟨n, upd_same⟩ (h.mono x)⟩
theorem sz_small {n : Nat} (h : n ≤ 16777216) : n ≤ sizeLine := by rw [sizeLine_eq]; omega
theorem ev_tup {es : List Expr} {k1 pos} {ds : List PyData} (h : A1 F W K es env ds) (hz : ds.length ≤ sizeLine := by first | (exact sz_small (by decide)) | (exact sz_small (by simp only [List.length_cons, List.length_nil]; omega))) : E1 F W K (.Tuple es k1 pos) env (.dat (.tuple ds)) := by
  intro σ H i sd Q q
  refine ⟨tTup (WA F es), fun z => pe_tup (wa_pa z), ?_⟩
  refine h σ H i sd _ fun vs H1 rs x1 i1 d1 h1 => ?_
  subst h1
  have dn := dn_of_sd d1
  refine ⟨by rw [dn.length]; exact hz, fun p hp => ?_⟩
  obtain ⟨x2, i2, d2⟩ := new_tup i1 hp dn
  exact q _ _ _ (x1.trans x2) i2 d2.dv rfl
theorem ev_lst {es : List Expr} {pos} {ds : List PyData} (h : A1 F W K es env ds) (hz : ds.length ≤ sizeLine := by first | (exact sz_small (by decide)) | (exact sz_small (by simp only [List.length_cons, List.length_nil]; omega))) : E1 F W K (.List es pos) env (.dat (.list ds)) := by
  intro σ H i sd Q q
  refine ⟨tLst (WA F es), fun z => pe_lst (wa_pa z), ?_⟩
  refine h σ H i sd _ fun vs H1 rs x1 i1 d1 h1 => ?_
  subst h1
  have dn := dn_of_sd d1
  refine ⟨by rw [dn.length]; exact hz, fun p hp => ?_⟩
  obtain ⟨x2, i2, d2⟩ := new_lst i1 hp dn
  exact q _ _ _ (x1.trans x2) i2 d2.dv rfl

/-! ### two-place operations, by data -/
def WO (F : ι → Cx) (f : Value → Value → Sem Value) : R2 := fun x y H Q => ∃ r, (∀ i, OpR (F i) f r) ∧ r x y H Q
theorem wo_op {f : Value → Value → Sem Value} (i : ι) : OpR (F i) f (WO F f) := by
  intro pins s σ H x y v u Q I rx ry ⟨r, hr, q⟩
  exact hr i pins s σ H x y v u Q I rx ry q
/-- f on data x, y gives data that R holds of -/
def Bin (F : ι → Cx) (W : Wd) (K : PySem.W.Frag) (f : Value → Value → Sem Value) (x y : PyData) (R : Sl → Prop) : Prop :=
  ∀ (H : Hp) (vx vy : V), W.I H → Dn W K H vx x → Dn W K H vy y → ∀ Q : VK, (∀ v H' r, Wx W H H' → W.I H' → Dv W K H' (some v) r → R r → Q v H') → WO F f vx vy H Q
abbrev B1 (F : ι → Cx) (W : Wd) (K : PySem.W.Frag) (f : Value → Value → Sem Value) (x y z : PyData) : Prop := Bin F W K f x y fun s => s = .dat z
theorem op_all {e1 e2 : Expr} {f : Value → Value → Sem Value} {Ra Rb R : Sl → Prop} (ha : Ev F W K e1 env Ra) (hb : Ev F W K e2 env Rb)
    (ho : ∀ x y, Ra x → Rb y → ∃ dx dy, x = .dat dx ∧ y = .dat dy ∧ Bin F W K f dx dy R) (σ : L2.St) (H : Hp) (i : W.I H) (sd : Sd W K H σ env) (Q : VK)
    (q : ∀ v H' r, Wx W H H' → W.I H' → Dv W K H' (some v) r → R r → Q v H') : tOp (WO F f) (WE F e1) (WE F e2) σ H Q := by
  refine ha σ H i sd _ fun v1 H1 r1 x1 i1 d1 h1 => ?_
  refine hb σ H1 i1 (sd.mono x1) _ fun v2 H2 r2 x2 i2 d2 h2 => ?_
  obtain ⟨dx, dy, rfl, rfl, hB⟩ := ho r1 r2 h1 h2
  obtain ⟨u1, z1, n1⟩ := d1
  obtain ⟨u2, z2, n2⟩ := d2
  cases z1
  cases z2
  exact hB H2 v1 v2 i2 (n1.mono x2) n2 Q fun v H3 r x3 i3 d3 h3 => q v H3 r ((x1.trans x2).trans x3) i3 d3 h3
theorem ev_opN {a b : Expr} {op : Operator} {pos : Pos} {Ra Rb R : Sl → Prop} (ha : Ev F W K a env Ra) (hb : Ev F W K b env Rb) (ho : ∀ x y, Ra x → Rb y → ∃ dx dy, x = .dat dx ∧ y = .dat dy ∧ Bin F W K (binaryOp op) dx dy R) :
    Ev F W K (.BinOp a op b pos) env R := fun σ H i sd Q q => ⟨_, fun z => pe_op (wo_op z) (we_pe z) (we_pe z), op_all ha hb ho σ H i sd Q q⟩
theorem ev_op {a b : Expr} {op : Operator} {pos : Pos} {x y z : PyData} (ha : E1 F W K a env (.dat x)) (hb : E1 F W K b env (.dat y)) (ho : B1 F W K (binaryOp op) x y z) : E1 F W K (.BinOp a op b pos) env (.dat z) :=
  ev_opN ha hb fun _ _ e1 e2 => ⟨x, y, e1, e2, ho⟩
theorem ev_cmpN {a b : Expr} {op : CmpOp} {pos : Pos} {Ra Rb R : Sl → Prop} (ha : Ev F W K a env Ra) (hb : Ev F W K b env Rb) (ho : ∀ x y, Ra x → Rb y → ∃ dx dy, x = .dat dx ∧ y = .dat dy ∧ Bin F W K (compareOp op) dx dy R)
    (hm : behindInMarks op b = false := by first | exact nomark _ | rfl) : Ev F W K (.Compare a [op] [b] pos) env R := fun σ H i sd Q q => ⟨_, fun z => pe_cmpR (wo_op z) (we_pe z) (we_pe z) hm, op_all ha hb ho σ H i sd Q q⟩
theorem ev_cmp {a b : Expr} {op : CmpOp} {pos : Pos} {x y z : PyData} (ha : E1 F W K a env (.dat x)) (hb : E1 F W K b env (.dat y)) (ho : B1 F W K (compareOp op) x y z)
    (hm : behindInMarks op b = false := by first | exact nomark _ | rfl) : E1 F W K (.Compare a [op] [b] pos) env (.dat z) := ev_cmpN ha hb (fun _ _ e1 e2 => ⟨x, y, e1, e2, ho⟩) hm
theorem et_cmpN {a b : Expr} {op : CmpOp} {pos : Pos} {Ra Rb : Sl → Prop} {R : Bool → Prop} (ha : Ev F W K a env Ra) (hb : Ev F W K b env Rb) (ho : ∀ x y, Ra x → Rb y → ∃ dx dy, x = .dat dx ∧ y = .dat dy ∧ Bin F W K (compareOp op) dx dy fun s => ∃ c, s = .dat (.bool c) ∧ R c)
    (hm : behindInMarks op b = false := by first | exact nomark _ | rfl) : EvT F W K (.Compare a [op] [b] pos) env R := by
  intro σ H i sd Q q
  refine ⟨_, fun z => pt_cmpR (wo_op z) (we_pe z) (we_pe z) hm, op_all ha hb ho σ H i sd _ fun v H' r x i' d h => ?_⟩
  obtain ⟨c, rfl, hc⟩ := h
  obtain ⟨u, z1, n1⟩ := d
  cases z1
  cases n1
  exact ⟨c, rfl, q c H' x i' hc⟩
theorem et_cmp {a b : Expr} {op : CmpOp} {pos : Pos} {x y : PyData} {c : Bool} (ha : E1 F W K a env (.dat x)) (hb : E1 F W K b env (.dat y)) (ho : B1 F W K (compareOp op) x y (.bool c))
    (hm : behindInMarks op b = false := by first | exact nomark _ | rfl) : T1 F W K (.Compare a [op] [b] pos) env c :=
  et_cmpN ha hb (fun _ _ e1 e2 => ⟨x, y, e1, e2, fun H vx vy i nx ny Q q => ho H vx vy i nx ny Q fun v H' r xx ii d h => q v H' r xx ii d ⟨c, h, rfl⟩⟩) hm
/-- a value that is a bool, as a test -/
theorem et_val {e : Expr} {c : Bool} (h : E1 F W K e env (.dat (.bool c))) (ht : ∀ i, ∀ whole, isTrue e (F i).env whole = (do let v ← whole; standAt e.pos; holding [v] (truthy v)) := by intro _ _; rfl) : T1 F W K e env c := by
  intro σ H i sd Q q
  refine ⟨_, fun z => pt_val (we_pe z) (ht z), h σ H i sd _ fun v H' r x i' d hr => ?_⟩
  subst hr
  obtain ⟨u, z1, n1⟩ := d
  cases z1
  cases n1
  exact ⟨c, rfl, q c H' x i' rfl⟩

/-! ### the operations -/
theorem bin_int {f : Value → Value → Sem Value} {g : Int → Int → Int} {C : Int → Int → Prop} {i j : Int} (h : ∀ z, OpR (F z) f (rI C fun i j => .int (g i j))) (hc : C i j) : B1 F W K f (.int i) (.int j) (.int (g i j)) := by
  intro H vx vy ii nx ny Q q
  cases nx
  cases ny
  exact ⟨_, h, i, j, rfl, rfl, hc, q _ H _ (Wx.refl W H) ii (Dn.dv (.int _)) rfl⟩
theorem bin_int0 {f : Value → Value → Sem Value} {g : Int → Int → Int} {i j : Int} (h : ∀ z, OpR (F z) f (rI0 fun i j => .int (g i j))) : B1 F W K f (.int i) (.int j) (.int (g i j)) := by
  intro H vx vy ii nx ny Q q
  cases nx
  cases ny
  exact ⟨_, h, i, j, rfl, rfl, q _ H _ (Wx.refl W H) ii (Dn.dv (.int _)) rfl⟩
theorem cmp_int {f : Value → Value → Sem Value} {g : Int → Int → Bool} {i j : Int} (h : ∀ z, OpR (F z) f (rI0 fun i j => .bl (g i j))) : B1 F W K f (.int i) (.int j) (.bool (g i j)) := by
  intro H vx vy ii nx ny Q q
  cases nx
  cases ny
  exact ⟨_, h, i, j, rfl, rfl, q _ H _ (Wx.refl W H) ii (Dn.dv (.bl _)) rfl⟩
theorem b_add {i j : Int} : B1 F W K (binaryOp .Add) (.int i) (.int j) (.int (i + j)) := bin_int0 (g := fun i j => i + j) fun _ => op_add
theorem b_sub {i j : Int} : B1 F W K (binaryOp .Sub) (.int i) (.int j) (.int (i - j)) := bin_int0 (g := fun i j => i - j) fun _ => op_sub
theorem b_mul {i j : Int} (h : CMul i j) : B1 F W K (binaryOp .Mult) (.int i) (.int j) (.int (i * j)) := bin_int (g := fun i j => i * j) (fun _ => op_mul) h
theorem b_mod {i j : Int} (h : 0 < j) : B1 F W K (binaryOp .Mod) (.int i) (.int j) (.int (i % j)) := bin_int (g := fun i j => i % j) (fun _ => op_mod) h
theorem b_div {i j : Int} (h : CDivW i j) : B1 F W K (binaryOp .FloorDiv) (.int i) (.int j) (.int (i / j)) := bin_int (g := fun i j => i / j) (fun _ => op_fdivW) h
theorem b_pow {i j : Int} (h : CPow i j) : B1 F W K (binaryOp .Pow) (.int i) (.int j) (.int (i ^ j.toNat)) := bin_int (g := fun i j => i ^ j.toNat) (fun _ => op_pow) h
theorem b_lt {i j : Int} : B1 F W K (compareOp .Lt) (.int i) (.int j) (.bool (decide (i < j))) := cmp_int (g := fun i j => decide (i < j)) fun _ => op_lt
theorem b_le {i j : Int} : B1 F W K (compareOp .LtE) (.int i) (.int j) (.bool (decide (i ≤ j))) := cmp_int (g := fun i j => decide (i ≤ j)) fun _ => op_le
theorem b_gt {i j : Int} : B1 F W K (compareOp .Gt) (.int i) (.int j) (.bool (decide (j < i))) := cmp_int (g := fun i j => decide (j < i)) fun _ => op_gt
theorem b_ge {i j : Int} : B1 F W K (compareOp .GtE) (.int i) (.int j) (.bool (decide (j ≤ i))) := cmp_int (g := fun i j => decide (j ≤ i)) fun _ => op_ge
theorem b_eq (fm : Fam P w K mg base N k sc F) {x y : PyData} (hx : SeqAt.shaped x = true := by rfl) (hy : SeqAt.shaped y = true := by rfl) (nx : noDict x = true := by rfl) (ny : noDict y = true := by rfl) : B1 F W K (compareOp .Eq) x y (.bool (PyData.eqv x y)) := by
  intro H vx vy ii dx dy Q q
  refine ⟨rEqD K, fun z => by have := op_eqD (fm.ro z).units; rwa [fm.kk z] at this, x, y, dx.dp nx, dy.dp ny, hx, hy, q _ H _ (Wx.refl W H) ii (Dn.dv (.bl _)) rfl⟩
theorem b_ne (fm : Fam P w K mg base N k sc F) {x y : PyData} (hx : SeqAt.shaped x = true := by rfl) (hy : SeqAt.shaped y = true := by rfl) (nx : noDict x = true := by rfl) (ny : noDict y = true := by rfl) : B1 F W K (compareOp .NotEq) x y (.bool (!PyData.eqv x y)) := by
  intro H vx vy ii dx dy Q q
  refine ⟨rNeD K, fun z => by have := op_neD (fm.ro z).units; rwa [fm.kk z] at this, x, y, dx.dp nx, dy.dp ny, hx, hy, q _ H _ (Wx.refl W H) ii (Dn.dv (.bl _)) rfl⟩
def isNone : PyData → Bool
  | .none => true
  | _ => false
theorem b_isN {x : PyData} : B1 F W K (compareOp .Is) x .none (.bool (isNone x)) := by
  intro H vx vy ii dx dy Q q
  cases dy
  refine ⟨_, fun z => op_isN, rfl, ?_⟩
  have e : decide (vx = V.non) = isNone x := by cases dx <;> rfl
  rw [e]
  exact q _ H _ (Wx.refl W H) ii (Dn.dv (.bl _)) rfl
theorem b_notN {x : PyData} : B1 F W K (compareOp .IsNot) x .none (.bool (!isNone x)) := by
  intro H vx vy ii dx dy Q q
  cases dy
  refine ⟨_, fun z => op_notN, rfl, ?_⟩
  have e : decide (vx = V.non) = isNone x := by cases dx <;> rfl
  rw [e]
  exact q _ H _ (Wx.refl W H) ii (Dn.dv (.bl _)) rfl
theorem la_of {H : Hp} {a : Addr} {xs : List V} (n : ¬ W.M a) (h : H a = some (.lst xs)) : LA W K H a xs := ⟨n, h⟩
/-- flat data: what x in xs asks -/
def flatD : PyData → Bool
  | .none | .bool _ | .int _ | .str _ => true
  | _ => false
def inD (x : PyData) (xs : List PyData) : Bool := xs.any fun y => PyData.eqv y x
theorem flat_of {H : Hp} {v : V} {d : PyData} (h : Dn W K H v d) (f : flatD d = true) : flatV v = true := by
  cases h <;> first | rfl | (simp [flatD] at f)
theorem flats_of {H : Hp} : ∀ {ds : List PyData} {vs : List V}, DnAll W K H vs ds → ds.all flatD = true → vs.all flatV = true
  | [], _, h, _ => by cases h; rfl
  | d :: ds, _, h, f => by
    have f2 : flatD d = true ∧ ds.all flatD = true := by simpa using f
    cases h with
    | cons a t =>
      rw [List.all_cons, flat_of a f2.1, flats_of t f2.2] <;> rfl
theorem eqV_of {H : Hp} {v u : V} {d e : PyData} (h : Dn W K H v d) (h' : Dn W K H u e) (f : flatD d = true) (f' : flatD e = true) : eqV v u = PyData.eqv d e := by
  cases h <;> cases h' <;> first | rfl | (simp [eqV, PyData.eqv]; done) | (simp [flatD] at f; done) | (simp [flatD] at f'; done) | (unfold eqV PyData.eqv; rfl) | skip
end
end Cr

set_option Elab.async false
set_option linter.all false
set_option maxRecDepth 100000
set_option maxHeartbeats 4000000
namespace Cr
open PySem PySem.Spec PyProof.Rows L2
section
variable {ι : Type} {F : ι → Cx} {P : Program} {w : World} {K : PySem.W.Frag} {mg : Str → Option Value} {base : Heap} {N : List Str} {k : Nat} {sc : Scope} {W : Wd} {env : List Sl}

/-! ### in, lists, tuples, texts -/
theorem inV_of {H : Hp} {v : V} {d : PyData} (h : Dn W K H v d) (f : flatD d = true) : ∀ {ds : List PyData} {vs : List V}, DnAll W K H vs ds → ds.all flatD = true → inV v vs = inD d ds
  | [], _, a, _ => by cases a; rfl
  | e :: ds, _, a, f2 => by
    have f3 : flatD e = true ∧ ds.all flatD = true := by simpa using f2
    cases a with
    | cons b t =>
      have ih := inV_of h f t f3.2
      unfold inV inD at ih ⊢
      rw [List.any_cons, List.any_cons, eqV_of b h f3.1 f, ih]
theorem in_seq (fm : Fam P w K mg base N k sc F) {x s : PyData} {ds : List PyData} (hs : s = .list ds ∨ s = .tuple ds) (fx : flatD x = true) (fs : ds.all flatD = true) : B1 F W K (compareOp .In) x s (.bool (inD x ds)) := by
  intro H vx vy ii nx ny Q q
  refine ⟨rIn K false, fun z => by have := op_in_seq (X := F z); rwa [fm.kk z] at this, ?_⟩
  rcases hs with rfl | rfl
  · cases ny with
    | lst a r => exact ⟨_, _, rfl, Or.inl a.sq, flat_of nx fx, flats_of r fs, q _ H _ (Wx.refl W H) ii (Dn.dv (by show Dn W K H (.bl (inV vx _)) _; rw [inV_of nx fx r fs]; exact .bl _)) rfl⟩
  · cases ny with
    | tup a r => exact ⟨_, _, rfl, Or.inr a.sq, flat_of nx fx, flats_of r fs, q _ H _ (Wx.refl W H) ii (Dn.dv (by show Dn W K H (.bl (inV vx _)) _; rw [inV_of nx fx r fs]; exact .bl _)) rfl⟩
theorem nin_seq (fm : Fam P w K mg base N k sc F) {x s : PyData} {ds : List PyData} (hs : s = .list ds ∨ s = .tuple ds) (fx : flatD x = true) (fs : ds.all flatD = true) : B1 F W K (compareOp .NotIn) x s (.bool (!inD x ds)) := by
  intro H vx vy ii nx ny Q q
  refine ⟨rIn K true, fun z => by have := op_notIn_seq (X := F z); rwa [fm.kk z] at this, ?_⟩
  rcases hs with rfl | rfl
  · cases ny with
    | lst a r => exact ⟨_, _, rfl, Or.inl a.sq, flat_of nx fx, flats_of r fs, q _ H _ (Wx.refl W H) ii (Dn.dv (by show Dn W K H (.bl (!inV vx _)) _; rw [inV_of nx fx r fs]; exact .bl _)) rfl⟩
  · cases ny with
    | tup a r => exact ⟨_, _, rfl, Or.inr a.sq, flat_of nx fx, flats_of r fs, q _ H _ (Wx.refl W H) ii (Dn.dv (by show Dn W K H (.bl (!inV vx _)) _; rw [inV_of nx fx r fs]; exact .bl _)) rfl⟩
theorem b_inL (fm : Fam P w K mg base N k sc F) {x : PyData} {ds : List PyData} (fx : flatD x = true := by rfl) (fs : ds.all flatD = true := by rfl) : B1 F W K (compareOp .In) x (.list ds) (.bool (inD x ds)) := in_seq fm (Or.inl rfl) fx fs
theorem b_inT (fm : Fam P w K mg base N k sc F) {x : PyData} {ds : List PyData} (fx : flatD x = true := by rfl) (fs : ds.all flatD = true := by rfl) : B1 F W K (compareOp .In) x (.tuple ds) (.bool (inD x ds)) := in_seq fm (Or.inr rfl) fx fs
theorem b_ninL (fm : Fam P w K mg base N k sc F) {x : PyData} {ds : List PyData} (fx : flatD x = true := by rfl) (fs : ds.all flatD = true := by rfl) : B1 F W K (compareOp .NotIn) x (.list ds) (.bool (!inD x ds)) := nin_seq fm (Or.inl rfl) fx fs
theorem b_ninT (fm : Fam P w K mg base N k sc F) {x : PyData} {ds : List PyData} (fx : flatD x = true := by rfl) (fs : ds.all flatD = true := by rfl) : B1 F W K (compareOp .NotIn) x (.tuple ds) (.bool (!inD x ds)) := nin_seq fm (Or.inr rfl) fx fs
/-- x in l, whatever is in l -/
theorem b_inAny (fm : Fam P w K mg base N (k + 1) sc F) {x : PyData} {ds : List PyData} (hx : SeqAt.shaped x = true) (hy : SeqAt.shaped (.list ds) = true) (nx : noDict x = true) (ny : noDict (.list ds) = true) : B1 F W K (compareOp .In) x (.list ds) (.bool (inD x ds)) := by
  intro H vx vy ii dx dy Q q
  have hu : ∀ z, (F z).A.units + 65 < cLine := fun z => by have := (fm.ro z).un; omega
  refine ⟨rInD K, fun z => by have := op_inD (hu z); rwa [fm.kk z] at this, x, ds, dx.dp nx, dy.dp ny, hx, hy, q _ H _ (Wx.refl W H) ii (Dn.dv (.bl _)) rfl⟩
def signIn (c : Nat) (z : Str) : Bool := decide (c ∈ z.cps.toList)
theorem b_inSign {c : Nat} {z : Str} : B1 F W K (compareOp .In) (.str ⟨#[c]⟩) (.str z) (.bool (signIn c z)) := by
  intro H vx vy ii nx ny Q q
  cases nx
  cases ny
  exact ⟨_, fun z => op_in_sign, c, z, rfl, rfl, q _ H _ (Wx.refl W H) ii (Dn.dv (.bl _)) rfl⟩
theorem b_ninSign {c : Nat} {z : Str} : B1 F W K (compareOp .NotIn) (.str ⟨#[c]⟩) (.str z) (.bool (!signIn c z)) := by
  intro H vx vy ii nx ny Q q
  cases nx
  cases ny
  exact ⟨_, fun z => op_notIn_sign, c, z, rfl, rfl, q _ H _ (Wx.refl W H) ii (Dn.dv (.bl _)) rfl⟩
/-- a new list of two, also where one stands in the module -/
theorem b_cat {ds es : List PyData} (hz : ds.length + es.length ≤ sizeLine) : B1 F W K (binaryOp .Add) (.list ds) (.list es) (.list (ds ++ es)) := by
  intro H vx vy ii nx ny Q q
  cases nx with
  | lst a ra =>
    cases ny with
    | lst b rb =>
      refine ⟨_, fun z => op_cat, _, _, _, _, rfl, rfl, a.2, b.2, by rw [ra.length, rb.length]; exact hz, fun p hp => ?_⟩
      obtain ⟨x2, i2, d2⟩ := new_lst ii hp (ra.append rb)
      exact q _ _ _ x2 i2 d2.dv rfl
theorem b_rep {ds : List PyData} {n : Int} (h0 : -(2 ^ 63) ≤ n) (h1 : n < 2 ^ 63) (hz : ds.length * n.toNat ≤ sizeLine) : B1 F W K (binaryOp .Mult) (.list ds) (.int n) (.list (List.replicate n.toNat ds).flatten) := by
  intro H vx vy ii nx ny Q q
  cases ny
  cases nx with
  | lst a ra =>
    refine ⟨_, fun z => op_rep, _, n, _, rfl, rfl, a.2, h0, h1, by rw [ra.length]; exact hz, fun p hp => ?_⟩
    obtain ⟨x2, i2, d2⟩ := new_lst ii hp (ra.rep n.toNat)
    exact q _ _ _ x2 i2 d2.dv rfl
theorem b_catT (fm : Fam P w K mg base N k sc F) {ds es : List PyData} (hz : ds.length + es.length ≤ sizeLine) : B1 F W K (binaryOp .Add) (.tuple ds) (.tuple es) (.tuple (ds ++ es)) := by
  intro H vx vy ii nx ny Q q
  cases nx with
  | tup a ra =>
    cases ny with
    | tup b rb =>
      refine ⟨rCatA K, fun z => by have := op_catA (X := F z); rwa [fm.kk z] at this, _, _, _, _, rfl, rfl, a.sq, b.sq, by rw [ra.length, rb.length]; exact hz, fun e => ?_, fun _ e => ?_, fun _ _ p hp => ?_⟩
      · subst e
        cases ra
        exact q _ H _ (Wx.refl W H) ii (Dn.dv (.tup b rb)) rfl
      · subst e
        cases rb
        rw [List.append_nil] at q
        exact q _ H _ (Wx.refl W H) ii (Dn.dv (.tup a ra)) rfl
      · obtain ⟨x2, i2, d2⟩ := new_tup ii hp (ra.append rb)
        exact q _ _ _ x2 i2 d2.dv rfl
theorem b_catS {x y : Str} (hz : x.length + y.length ≤ sizeLine) : B1 F W K (binaryOp .Add) (.str x) (.str y) (.str (x ++ y)) := by
  intro H vx vy ii nx ny Q q
  cases nx
  cases ny
  exact ⟨_, fun z => op_add_str, x, y, rfl, rfl, hz, q _ H _ (Wx.refl W H) ii (Dn.dv (.str _)) rfl⟩
/-- repr -/
def WC (F : ι → Cx) (f : Value) : List V → Hp → VK → Prop := fun xs H Q => ∃ r, (∀ i, CallR (F i) f r) ∧ r xs H Q
theorem wc_call {f : Value} (i : ι) : CallR (F i) f (WC F f) := by
  intro pins s σ H xs us Q I rx ⟨r, hr, q⟩
  exact hr i pins s σ H xs us Q I rx q
/-- a call of f by data -/
def Cal (F : ι → Cx) (W : Wd) (K : PySem.W.Frag) (f : Value) (ds : List PyData) (R : Sl → Prop) : Prop :=
  ∀ (H : Hp) (vs : List V), W.I H → DnAll W K H vs ds → ∀ Q : VK, (∀ v H' r, Wx W H H' → W.I H' → Dv W K H' (some v) r → R r → Q v H') → WC F f vs H Q
abbrev C1 (F : ι → Cx) (W : Wd) (K : PySem.W.Frag) (f : Value) (ds : List PyData) (z : PyData) : Prop := Cal F W K f ds fun s => s = .dat z
theorem ev_callB (fm : Fam P w K mg base N k sc F) {x : Str} {id : String} {p pos : Pos} {e : Expr} {es : List Expr} {ds : List PyData} {R : Sl → Prop} (ha : A1 F W K (e :: es) env ds) (hm : mg x = none) (hc : Cal F W K (.builtin id) ds R) (hv : bootBuiltins x = some (.builtin id) := by decide +kernel)
    (hg : glB sc x = true := by decide +kernel) (hn : x ≠ "__name__" := by decide) (hdb : (x == ("__debug__" : Str)) = false := by decide) (st : ∀ i, starEach (e :: es) (F i).env = (false, eval e (F i).env) :: starEach es (F i).env := by intro _; rfl) (pl : ∀ i, (backTo pos (starEach es (F i).env)).any (·.1) = false := by intro _; rfl) :
    Ev F W K (.Call (.Name x p) (e :: es) [] pos) env R := by
  intro σ H i sd Q q
  refine ⟨tCB (WC F (.builtin id)) (WA F (e :: es)), fun z => pe_callB (wc_call z) (gl_of (fm.es z) hg) (by rw [fm.mg z]; exact hm) hv (wa_pa z) hn hdb (st z) (pl z), ?_⟩
  refine ha σ H i sd _ fun vs H1 rs x1 i1 d1 h1 => ?_
  subst h1
  exact hc H1 vs i1 (dn_of_sd d1) Q fun v H' r x' i' d h => q v H' r (x1.trans x') i' d h
theorem ev_callTy (fm : Fam P w K mg base N k sc F) {x : Str} {id : String} {p pos : Pos} {e : Expr} {es : List Expr} {ds : List PyData} {R : Sl → Prop} (ha : A1 F W K (e :: es) env ds) (hm : mg x = none) (hc : Cal F W K (.type id) ds R) (hv : bootBuiltins x = some (.type id) := by decide +kernel)
    (hg : glB sc x = true := by decide +kernel) (hn : x ≠ "__name__" := by decide) (hdb : (x == ("__debug__" : Str)) = false := by decide) (st : ∀ i, starEach (e :: es) (F i).env = (false, eval e (F i).env) :: starEach es (F i).env := by intro _; rfl) (pl : ∀ i, (backTo pos (starEach es (F i).env)).any (·.1) = false := by intro _; rfl) :
    Ev F W K (.Call (.Name x p) (e :: es) [] pos) env R := by
  intro σ H i sd Q q
  refine ⟨tCB (WC F (.type id)) (WA F (e :: es)), fun z => pe_callTy (wc_call z) (gl_of (fm.es z) hg) (by rw [fm.mg z]; exact hm) hv (wa_pa z) hn hdb (st z) (pl z), ?_⟩
  refine ha σ H i sd _ fun vs H1 rs x1 i1 d1 h1 => ?_
  subst h1
  exact hc H1 vs i1 (dn_of_sd d1) Q fun v H' r x' i' d h => q v H' r (x1.trans x') i' d h

/-! ### built-ins by data -/
theorem call1 {f : Value} {z : PyData} {ds : List PyData} {u : V} (h : ∀ (H : Hp) (vs : List V), DnAll W K H vs ds → ∃ r, (∀ i, CallR (F i) f r) ∧ ∀ Q : VK, Q u H → r vs H Q) (dz : ∀ H, Dn W K H u z) : C1 F W K f ds z := by
  intro H vs ii dn Q q
  obtain ⟨r, hr, hq⟩ := h H vs dn
  exact ⟨r, hr, hq Q (q u H _ (Wx.refl W H) ii (dz H).dv rfl)⟩
theorem c_abs {n : Int} : C1 F W K (.builtin "abs") [.int n] (.int (if n < 0 then -n else n)) := call1 (fun H vs dn => by
  cases dn with
  | cons a t =>
    cases a
    cases t
    exact ⟨_, fun i => call_abs, fun Q q => ⟨n, rfl, q⟩⟩) fun H => .int _
theorem c_int {n : Int} : C1 F W K (.type "int") [.int n] (.int n) := call1 (fun H vs dn => by
  cases dn with
  | cons a t =>
    cases a
    cases t
    exact ⟨_, fun i => call_int1, fun Q q => Or.inl ⟨n, rfl, q⟩⟩) fun H => .int _
theorem c_intB {b : Bool} : C1 F W K (.type "int") [.bool b] (.int (if b then 1 else 0)) := call1 (fun H vs dn => by
  cases dn with
  | cons a t =>
    cases a
    cases t
    exact ⟨_, fun i => call_int1, fun Q q => Or.inr ⟨b, rfl, q⟩⟩) fun H => .int _
theorem c_max (fm : Fam P w K mg base N k sc F) {n m : Int} : C1 F W K (.builtin "max") [.int n, .int m] (.int (if m > n then m else n)) := call1 (fun H vs dn => by
  cases dn with
  | cons a t =>
    cases a
    cases t with
    | cons b t =>
      cases b
      cases t
      exact ⟨_, fun i => call_max2 (fm.ca i), fun Q q => ⟨n, m, rfl, q⟩⟩) fun H => .int _
theorem c_min (fm : Fam P w K mg base N k sc F) {n m : Int} : C1 F W K (.builtin "min") [.int n, .int m] (.int (if m < n then m else n)) := call1 (fun H vs dn => by
  cases dn with
  | cons a t =>
    cases a
    cases t with
    | cons b t =>
      cases b
      cases t
      exact ⟨_, fun i => call_min2 (fm.ca i), fun Q q => ⟨n, m, rfl, q⟩⟩) fun H => .int _
def rLn (K : PySem.W.Frag) : List V → Hp → VK → Prop := fun xs H Q => ∃ p ys, xs = [.ref p] ∧ (SqL K H p ys ∨ SqT K H p ys) ∧ Q (.int ys.length) H
theorem call_ln (fm : Fam P w K mg base N k sc F) (i : ι) : CallR (F i) (.builtin "len") (rLn K) := by
  have := call_len_seq (X := F i)
  rwa [fm.kk i] at this
theorem c_lenL (fm : Fam P w K mg base N k sc F) {ds : List PyData} : C1 F W K (.builtin "len") [.list ds] (.int (ds.length : Int)) := call1 (fun H vs dn => by
  cases dn with
  | cons a t =>
    cases t
    cases a with
    | lst a r => exact ⟨_, call_ln fm, fun Q q => ⟨_, _, rfl, Or.inl a.sq, by rw [r.length]; exact q⟩⟩) fun H => .int _
theorem c_lenT (fm : Fam P w K mg base N k sc F) {ds : List PyData} : C1 F W K (.builtin "len") [.tuple ds] (.int (ds.length : Int)) := call1 (fun H vs dn => by
  cases dn with
  | cons a t =>
    cases t
    cases a with
    | tup a r => exact ⟨_, call_ln fm, fun Q q => ⟨_, _, rfl, Or.inr a.sq, by rw [r.length]; exact q⟩⟩) fun H => .int _
theorem c_lenS {z : Str} (hz : z.length ≤ sizeLine) : C1 F W K (.builtin "len") [.str z] (.int (z.length : Int)) := call1 (fun H vs dn => by
  cases dn with
  | cons a t =>
    cases t
    cases a
    exact ⟨_, fun i => call_len_str, fun Q q => ⟨z, rfl, hz, q⟩⟩) fun H => .int _
/-- repr of data -/
def rRp (K : PySem.W.Frag) : List V → Hp → VK → Prop := fun xs H Q => ∃ v d, xs = [v] ∧ Dp K H v d ∧ d.showable = true ∧ d.hasDict = false ∧ d.shown.length ≤ sizeLine ∧ d.depth ≤ 60 ∧ Q (.str d.shown) H
theorem call_rp {X : Cx} (hu : X.A.units + 64 < cLine) (hg : X.A.guards = some []) : CallR X (.builtin "repr") (rRp X.K) := by
  intro pins s σ H xs us Q I r h
  obtain ⟨v, d, rfl, dp, sh, nd, hz, hd, q⟩ := h
  obtain ⟨u, rfl, rv⟩ := vals1 r
  obtain ⟨as, rd⟩ := Dp.reads I d v u dp rv
  have fin : ∀ (t : Tok) (n : Nat), EP X pins σ Q (.str d.shown t) { s with toks := n } := fun t n => ⟨.str _, H, I.tok _, ⟨t, rfl⟩, q⟩
  cases dp with
  | non =>
    cases rv
    exact PySem.P.repr_of_none (fin _ _)
  | bl b =>
    cases rv
    exact PySem.P.repr_of_bool (by cases b <;> exact fin _ _)
  | int i =>
    obtain ⟨t, rfl⟩ := rv
    exact PySem.P.repr_of_int (of_decide_eq_true (by simpa [PyData.showable] using sh)) (fin _ _)
  | str x =>
    obtain ⟨t, rfl⟩ := rv
    exact PySem.P.repr_of_str (fin _ _) (by simpa only [PyData.shown] using hz)
  | lst a b =>
    cases rv
    exact repr_of_reads' rd sh (fun c => by rw [nd] at c; cases c) hg (by omega) (fun _ _ z => z) (fun h' t n keep => ⟨.str _, H, I.kept keep, ⟨t, rfl⟩, q⟩) hz
  | tup a b =>
    cases rv
    exact repr_of_reads' rd sh (fun c => by rw [nd] at c; cases c) hg (by omega) (fun _ _ z => z) (fun h' t n keep => ⟨.str _, H, I.kept keep, ⟨t, rfl⟩, q⟩) hz
/-- what repr can tell -/
structure Shows (d : PyData) : Prop where
  sh : d.showable = true
  nd : noDict d = true
  sz : d.shown.length ≤ sizeLine
  dp : d.depth ≤ 60
theorem c_repr (fm : Fam P w K mg base N k sc F) {d : PyData} (s : Shows d) : C1 F W K (.builtin "repr") [d] (.str d.shown) := call1 (fun H vs dn => by
  cases dn with
  | cons a t =>
    cases t
    exact ⟨rRp K, fun i => by have := call_rp (fm.ro i).units (fm.gu i); rwa [fm.kk i] at this, fun Q q => ⟨_, d, rfl, a.dp s.nd, s.sh, noDict_has d s.nd, s.sz, s.dp, q⟩⟩) fun H => .str _

/-! ### subscripts and slices -/
def WX (F : ι → Cx) : R2 := fun x y H Q => ∃ r, (∀ i, IxR (F i) r) ∧ r x y H Q
theorem wx_ix (i : ι) : IxR (F i) (WX F) := by
  intro value slice pins s σ H x y v u Q I rx ry ⟨r, hr, q⟩ hs
  exact hr i value slice pins s σ H x y v u Q I rx ry q hs
def Idx (F : ι → Cx) (W : Wd) (K : PySem.W.Frag) (x y : PyData) (R : Sl → Prop) : Prop :=
  ∀ (H : Hp) (vx vy : V), W.I H → Dn W K H vx x → Dn W K H vy y → ∀ Q : VK, (∀ v H' r, Wx W H H' → W.I H' → Dv W K H' (some v) r → R r → Q v H') → WX F vx vy H Q
theorem ev_ixN {a b : Expr} {pos : Pos} {Ra Rb R : Sl → Prop} (ha : Ev F W K a env Ra) (hb : Ev F W K b env Rb) (ho : ∀ x y, Ra x → Rb y → ∃ dx dy, x = .dat dx ∧ y = .dat dy ∧ Idx F W K dx dy R) (hs : PlainIx b := by exact fun _ _ => rfl) :
    Ev F W K (.Subscript a b pos) env R := by
  intro σ H i sd Q q
  refine ⟨tOp (WX F) (WE F a) (WE F b), fun z => pe_ix (wx_ix z) (we_pe z) (we_pe z) hs, ?_⟩
  refine ha σ H i sd _ fun v1 H1 r1 x1 i1 d1 h1 => ?_
  refine hb σ H1 i1 (sd.mono x1) _ fun v2 H2 r2 x2 i2 d2 h2 => ?_
  obtain ⟨dx, dy, rfl, rfl, hB⟩ := ho r1 r2 h1 h2
  obtain ⟨u1, z1, n1⟩ := d1
  obtain ⟨u2, z2, n2⟩ := d2
  cases z1
  cases z2
  exact hB H2 v1 v2 i2 (n1.mono x2) n2 Q fun v H' r x3 i3 d3 h3 => q v H' r ((x1.trans x2).trans x3) i3 d3 h3
theorem ev_ix {a b : Expr} {pos : Pos} {x y z : PyData} (ha : E1 F W K a env (.dat x)) (hb : E1 F W K b env (.dat y)) (ho : Idx F W K x y fun s => s = .dat z) (hs : PlainIx b := by exact fun _ _ => rfl) : E1 F W K (.Subscript a b pos) env (.dat z) :=
  ev_ixN ha hb (fun _ _ e1 e2 => ⟨x, y, e1, e2, ho⟩) hs
theorem atI_dn {H : Hp} {vs : List V} {ds : List PyData} {i : Int} {d : PyData} (h : DnAll W K H vs ds) (e : atI ds i = some d) : ∃ v, atI vs i = some v ∧ Dn W K H v d := by
  unfold atI at e ⊢
  rw [h.length]
  match hq : ixN ds.length i with
  | none => rw [hq] at e; cases e
  | some j =>
    rw [hq] at e
    exact h.get (i := j) e
theorem i_list (fm : Fam P w K mg base N k sc F) {ds : List PyData} {i : Int} {d : PyData} (e : atI ds i = some d) : Idx F W K (.list ds) (.int i) fun s => s = .dat d := by
  intro H vx vy ii nx ny Q q
  cases ny
  cases nx with
  | lst a r =>
    obtain ⟨v, e2, dn⟩ := atI_dn r e
    exact ⟨rIxL K, fun z => by have := ix_list (X := F z); rwa [fm.kk z] at this, _, _, i, v, rfl, rfl, a.sq, e2, q v H _ (Wx.refl W H) ii dn.dv rfl⟩
theorem i_tup (fm : Fam P w K mg base N k sc F) {ds : List PyData} {i : Int} {d : PyData} (e : atI ds i = some d) : Idx F W K (.tuple ds) (.int i) fun s => s = .dat d := by
  intro H vx vy ii nx ny Q q
  cases ny
  cases nx with
  | tup a r =>
    obtain ⟨v, e2, dn⟩ := atI_dn r e
    exact ⟨rIxT K, fun z => by have := ix_tup (X := F z); rwa [fm.kk z] at this, _, _, i, v, rfl, rfl, a.sq, e2, q v H _ (Wx.refl W H) ii dn.dv rfl⟩
theorem i_str {z : Str} {i : Int} {c : Nat} (hz : z.length ≤ sizeLine) (e : atI z.cps.toList i = some c) : Idx F W K (.str z) (.int i) fun s => s = .dat (.str ⟨#[c]⟩) := by
  intro H vx vy ii nx ny Q q
  cases ny
  cases nx
  exact ⟨rIxS, fun z => ix_str, z, i, c, rfl, rfl, hz, e, q _ H _ (Wx.refl W H) ii (Dn.dv (.str _)) rfl⟩
/-- slices -/
def EvO (F : ι → Cx) (W : Wd) (K : PySem.W.Frag) (e : Option Expr) (env : List Sl) (o : Option Int) : Prop := ∃ to : TO, (∀ i, PO (F i) e to) ∧
  ∀ (σ : L2.St) (H : Hp), W.I H → Sd W K H σ env → ∀ Q : Option Int → Hp → Prop, (∀ H', Wx W H H' → W.I H' → Q o H') → to σ H Q
theorem eo_none : EvO F W K none env none := ⟨tNoPart, fun _ => po_none, fun σ H i sd Q q => q H (Wx.refl W H) i⟩
theorem eo_some {e : Expr} {n : Int} (h : E1 F W K e env (.dat (.int n))) : EvO F W K (some e) env (some n) := ⟨tPart (WE F e), fun z => po_some (we_pe z), fun σ H i sd Q q => by
  refine h σ H i sd _ fun v H1 r x1 i1 d1 h1 => ?_
  subst h1
  obtain ⟨u, z, n1⟩ := d1
  cases z
  cases n1
  exact ⟨n, rfl, q H1 x1 i1⟩⟩
def cutD (ds : List PyData) (lo hi : Option Int) : List PyData := (ds.drop (HT.sIx ds.length 0 lo)).take (HT.sIx ds.length ds.length hi - HT.sIx ds.length 0 lo)
theorem cut_dn {H : Hp} {vs : List V} {ds : List PyData} {lo hi : Option Int} (h : DnAll W K H vs ds) : DnAll W K H (cutV vs lo hi) (cutD ds lo hi) := by
  unfold cutV cutD
  rw [h.length]
  exact (h.drop _).take _
theorem ev_cutL (fm : Fam P w K mg base N k sc F) {e : Expr} {lo hi : Option Expr} {p1 pos : Pos} {ds : List PyData} {l h : Option Int} (he : E1 F W K e env (.dat (.list ds))) (hl : EvO F W K lo env l) (hh : EvO F W K hi env h) : E1 F W K (.Subscript e (.Slice lo hi none p1) pos) env (.dat (.list (cutD ds l h))) := by
  intro σ H i sd Q q
  obtain ⟨tl, pl, ql⟩ := hl
  obtain ⟨th, ph, qh⟩ := hh
  refine ⟨tSl (rSlL K) (WE F e) tl th, fun z => pe_slice (by have := sl_list (X := F z); rwa [fm.kk z] at this) (we_pe z) (pl z) (ph z), ?_⟩
  refine he σ H i sd _ fun v H1 r x1 i1 d1 h1 => ?_
  subst h1
  refine ql σ H1 i1 (sd.mono x1) _ fun H2 x2 i2 => ?_
  refine qh σ H2 i2 (sd.mono (x1.trans x2)) _ fun H3 x3 i3 => ?_
  obtain ⟨u, z, n1⟩ := d1
  cases z
  cases n1 with
  | lst a rr =>
    refine ⟨_, _, rfl, ((a.mono x2).mono x3).sq, fun p hp => ?_⟩
    obtain ⟨x4, i4, d4⟩ := new_lst i3 hp (cut_dn (lo := l) (hi := h) ((rr.mono x2).mono x3))
    exact q _ _ _ (((x1.trans x2).trans x3).trans x4) i4 d4.dv rfl
theorem ev_cutT (fm : Fam P w K mg base N k sc F) {e : Expr} {lo hi : Option Expr} {p1 pos : Pos} {ds : List PyData} {l h : Option Int} (he : E1 F W K e env (.dat (.tuple ds))) (hl : EvO F W K lo env l) (hh : EvO F W K hi env h) : E1 F W K (.Subscript e (.Slice lo hi none p1) pos) env (.dat (.tuple (cutD ds l h))) := by
  intro σ H i sd Q q
  obtain ⟨tl, pl, ql⟩ := hl
  obtain ⟨th, ph, qh⟩ := hh
  refine ⟨tSl (rSlA K) (WE F e) tl th, fun z => pe_slice (by have := sl_tupA (X := F z); rwa [fm.kk z] at this) (we_pe z) (pl z) (ph z), ?_⟩
  refine he σ H i sd _ fun v H1 r x1 i1 d1 h1 => ?_
  subst h1
  refine ql σ H1 i1 (sd.mono x1) _ fun H2 x2 i2 => ?_
  refine qh σ H2 i2 (sd.mono (x1.trans x2)) _ fun H3 x3 i3 => ?_
  obtain ⟨u, z, n1⟩ := d1
  cases z
  cases n1 with
  | tup a rr =>
    have all := (rr.mono x2).mono x3
    refine ⟨_, _, rfl, ((a.mono x2).mono x3).sq, fun whole => ?_, fun _ p hp => ?_⟩
    · refine q _ _ _ ((x1.trans x2).trans x3) i3 (Dn.dv (.tup ((a.mono x2).mono x3) ?_)) rfl
      have e2 : cutD ds l h = ds := by
        unfold cutD
        rw [rr.length] at whole
        rw [whole.1, whole.2, List.drop_zero, Nat.sub_zero, List.take_length]
      rw [e2]
      exact all
    · obtain ⟨x4, i4, d4⟩ := new_tup i3 hp (cut_dn (lo := l) (hi := h) all)
      exact q _ _ _ (((x1.trans x2).trans x3).trans x4) i4 d4.dv rfl

/-! ### if, and, or, not -/
theorem ev_if {c a b : Expr} {pos : Pos} {Rc : Bool → Prop} {R : Sl → Prop} (hc : EvT F W K c env Rc) (ha : Rc true → Ev F W K a env R) (hb : Rc false → Ev F W K b env R) : Ev F W K (.IfExp c a b pos) env R := by
  intro σ H i sd Q q
  refine ⟨tIf (WT F c) (WE F a) (WE F b), fun z => pe_ifExp (wt_pt z) (we_pe z) (we_pe z), ?_⟩
  refine hc σ H i sd _ fun t H1 x1 i1 h1 => ?_
  cases t with
  | true => exact ha h1 σ H1 i1 (sd.mono x1) Q fun v H' r x i' d h => q v H' r (x1.trans x) i' d h
  | false => exact hb h1 σ H1 i1 (sd.mono x1) Q fun v H' r x i' d h => q v H' r (x1.trans x) i' d h
theorem et_not {a : Expr} {pos : Pos} {c : Bool} (h : T1 F W K a env c) : T1 F W K (.UnaryOp .Not a pos) env (!c) := by
  intro σ H i sd Q q
  refine ⟨tNot (WT F a), fun z => pt_not (wt_pt z), ?_⟩
  refine h σ H i sd _ fun t H1 x1 i1 h1 => ?_
  subst h1
  exact q _ H1 x1 i1 rfl
theorem et_w {a : Expr} {R : Bool → Prop} (h : EvW F W K a env R) : EvT F W K a env R := fun σ H i sd Q q => by
  obtain ⟨t, ht, hq⟩ := h σ H i sd Q q
  exact ⟨t, fun z => (ht z).pt, hq⟩
theorem ew_and1 {a : Expr} {pos : Pos} {R : Bool → Prop} (h : EvT F W K a env R) : EvW F W K (.BoolOp .And [a] pos) env R := fun σ H i sd Q q => ⟨WT F a, fun z => pw_and1 (wt_pt z), h σ H i sd Q q⟩
theorem ew_or1 {a : Expr} {pos : Pos} {R : Bool → Prop} (h : EvT F W K a env R) : EvW F W K (.BoolOp .Or [a] pos) env R := fun σ H i sd Q q => ⟨WT F a, fun z => pw_or1 (wt_pt z), h σ H i sd Q q⟩
theorem ew_and {a b : Expr} {rest : List Expr} {pos : Pos} {Ra R : Bool → Prop} (ha : EvT F W K a env Ra) (hb : Ra true → EvW F W K (.BoolOp .And (b :: rest) pos) env R) (h0 : Ra false → R false) : EvW F W K (.BoolOp .And (a :: b :: rest) pos) env R := fun σ H i sd Q q => by
  refine ⟨tAnd (WT F a) (WW F (.BoolOp .And (b :: rest) pos)), fun z => pw_and (wt_pt z) (ww_pw z), ?_⟩
  refine ha σ H i sd _ fun t H1 x1 i1 h1 => ?_
  cases t with
  | true => exact hb h1 σ H1 i1 (sd.mono x1) Q fun c H' x i' h => q c H' (x1.trans x) i' h
  | false => exact q false H1 x1 i1 (h0 h1)
theorem ew_or {a b : Expr} {rest : List Expr} {pos : Pos} {Ra R : Bool → Prop} (ha : EvT F W K a env Ra) (hb : Ra false → EvW F W K (.BoolOp .Or (b :: rest) pos) env R) (h0 : Ra true → R true) : EvW F W K (.BoolOp .Or (a :: b :: rest) pos) env R := fun σ H i sd Q q => by
  refine ⟨tOr (WT F a) (WW F (.BoolOp .Or (b :: rest) pos)), fun z => pw_or (wt_pt z) (ww_pw z), ?_⟩
  refine ha σ H i sd _ fun t H1 x1 i1 h1 => ?_
  cases t with
  | false => exact hb h1 σ H1 i1 (sd.mono x1) Q fun c H' x i' h => q c H' (x1.trans x) i' h
  | true => exact q true H1 x1 i1 (h0 h1)
/-- two tests with known answers -/
theorem et_and2 {a b : Expr} {pos : Pos} {c d : Bool} (ha : T1 F W K a env c) (hb : c = true → T1 F W K b env d) : T1 F W K (.BoolOp .And [a, b] pos) env (c && d) :=
  et_w (ew_and ha (fun z => ew_and1 ((hb z.symm).imp fun r e => by rw [← z, e]; rfl)) fun z => by rw [← z]; rfl)
theorem et_or2 {a b : Expr} {pos : Pos} {c d : Bool} (ha : T1 F W K a env c) (hb : c = false → T1 F W K b env d) : T1 F W K (.BoolOp .Or [a, b] pos) env (c || d) :=
  et_w (ew_or ha (fun z => ew_or1 ((hb z.symm).imp fun r e => by rw [← z, e]; rfl)) fun z => by rw [← z]; rfl)
/-- .. as values -/
theorem ev_one {a : Expr} {op} {pos : Pos} {R : Sl → Prop} (h : Ev F W K a env R) : Ev F W K (.BoolOp op [a] pos) env R := fun σ H i sd Q q => ⟨WE F a, fun z => pe_one (we_pe z), h σ H i sd Q q⟩
theorem ev_and {a b : Expr} {rest : List Expr} {pos : Pos} {c : Bool} {R : Sl → Prop} (ha : E1 F W K a env (.dat (.bool c))) (hb : c = true → Ev F W K (.BoolOp .And (b :: rest) pos) env R) (h0 : c = false → R (.dat (.bool false))) : Ev F W K (.BoolOp .And (a :: b :: rest) pos) env R := fun σ H i sd Q q => by
  refine ⟨tAndV (WE F a) (WE F (.BoolOp .And (b :: rest) pos)), fun z => pe_and (we_pe z) (we_pe z), ?_⟩
  refine ha σ H i sd _ fun v H1 r x1 i1 d1 h1 => ?_
  subst h1
  obtain ⟨u, z, n1⟩ := d1
  cases z
  cases n1
  refine ⟨c, rfl, ?_⟩
  cases c with
  | true => exact hb rfl σ H1 i1 (sd.mono x1) Q fun v H' r x i' d h => q v H' r (x1.trans x) i' d h
  | false => exact q _ H1 _ x1 i1 (Dn.dv (.bl false)) (h0 rfl)
theorem ev_or {a b : Expr} {rest : List Expr} {pos : Pos} {c : Bool} {R : Sl → Prop} (ha : E1 F W K a env (.dat (.bool c))) (hb : c = false → Ev F W K (.BoolOp .Or (b :: rest) pos) env R) (h0 : c = true → R (.dat (.bool true))) : Ev F W K (.BoolOp .Or (a :: b :: rest) pos) env R := fun σ H i sd Q q => by
  refine ⟨tOrV (WE F a) (WE F (.BoolOp .Or (b :: rest) pos)), fun z => pe_or (we_pe z) (we_pe z), ?_⟩
  refine ha σ H i sd _ fun v H1 r x1 i1 d1 h1 => ?_
  subst h1
  obtain ⟨u, z, n1⟩ := d1
  cases z
  cases n1
  refine ⟨c, rfl, ?_⟩
  cases c with
  | false => exact hb rfl σ H1 i1 (sd.mono x1) Q fun v H' r x i' d h => q v H' r (x1.trans x) i' d h
  | true => exact q _ H1 _ x1 i1 (Dn.dv (.bl true)) (h0 rfl)
theorem ev_not {a : Expr} {pos : Pos} {c : Bool} (ha : E1 F W K a env (.dat (.bool c))) : E1 F W K (.UnaryOp .Not a pos) env (.dat (.bool (!c))) := fun σ H i sd Q q => by
  refine ⟨tNotV (WE F a), fun z => pe_not (we_pe z), ?_⟩
  refine ha σ H i sd _ fun v H1 r x1 i1 d1 h1 => ?_
  subst h1
  obtain ⟨u, z, n1⟩ := d1
  cases z
  cases n1
  exact ⟨c, rfl, q _ H1 _ x1 i1 (Dn.dv (.bl _)) rfl⟩
theorem ev_neg {a : Expr} {pos : Pos} {n : Int} (ha : E1 F W K a env (.dat (.int n))) : E1 F W K (.UnaryOp .USub a pos) env (.dat (.int (-n))) := fun σ H i sd Q q => by
  refine ⟨tUn _ (WE F a), fun z => pe_un un_neg (we_pe z), ?_⟩
  refine ha σ H i sd _ fun v H1 r x1 i1 d1 h1 => ?_
  subst h1
  obtain ⟨u, z, n1⟩ := d1
  cases z
  cases n1
  exact ⟨n, rfl, q _ H1 _ x1 i1 (Dn.dv (.int _)) rfl⟩
end
end Cr

set_option Elab.async false
set_option linter.all false
set_option maxRecDepth 100000
set_option maxHeartbeats 4000000
namespace Cr
open PySem PySem.Spec PyProof.Rows L2
section
variable {ι : Type} {F : ι → Cx} {P : Program} {w : World} {K : PySem.W.Frag} {mg : Str → Option Value} {base : Heap} {N : List Str} {k : Nat} {sc : Scope} {W : Wd} {env : List Sl}

/-! ### targets -/
theorem tg_name (fm : Fam P w K mg base N k sc F) {x : Str} {pos : Pos} {r : Sl} (j : Nat) (hN : N[j]? = some x) (hx : locB sc x = true := by decide +kernel)
    (hf : ∀ i, (F i).fn x = true ∨ (F i).env.scope.names.lookup x = some .local := by intro _; first | exact Or.inl rfl | exact Or.inr rfl) : Tg F W K (.Name x pos) r env (env.set j r) := by
  intro v σ H i sd dv Q q
  exact ⟨gName j, fun z => pg_name (by rw [fm.nn z]; exact fm.nd) (by rw [fm.nn z]; exact hN) (loc_of (fm.es z) hx) (hf z), q _ H (Wx.refl W H) i (Sd.set dv j sd)⟩
theorem tgs_nil : Tgs F W K [] [] env env := by
  intro vs σ H i sd sv Q q
  match vs, sv with
  | [], _ => exact ⟨gNil, fun _ => pgs_nil, rfl, q _ H (Wx.refl W H) i sd⟩
theorem tgs_cons {e : Expr} {es : List Expr} {r : Sl} {rs : List Sl} {env1 env2 : List Sl} (h : Tg F W K e r env env1) (hs : Tgs F W K es rs env1 env2)
    (st : ∀ i, (assignEach (e :: es) (F i).env).map (·.2) = assign e (F i).env :: (assignEach es (F i).env).map (·.2) := by intro _; rfl) : Tgs F W K (e :: es) (r :: rs) env env2 := by
  intro vs σ H i sd sv Q q
  match vs, sv with
  | v :: vs, ⟨dv, sv⟩ =>
    refine ⟨gCons (WG F e) (WGs F es), fun z => pgs_cons (wg_pg z) (wgs_pgs z) (st z), v, vs, rfl, ?_⟩
    refine h v σ H i sd dv _ fun σ1 H1 x1 i1 sd1 => ?_
    exact hs vs σ1 H1 i1 sd1 (sv.mono x1) Q fun σ2 H2 x2 => q σ2 H2 (x1.trans x2)
theorem tg_tup (fm : Fam P w K mg base N k sc F) {es : List Expr} {k1 : Nat} {pos : Pos} {ds : List PyData} {env1 : List Sl} (h : Tgs F W K es (ds.map .dat) env env1) (n : Nat) (hl : ds.length = n) (hn : ∀ i, (assignEach es (F i).env).length = n := by intro _; rfl)
    (hst : ∀ i, (assignEach es (F i).env).findIdx? (·.1) = none := by intro _; rfl) : Tg F W K (.Tuple es k1 pos) (.dat (.tuple ds)) env env1 := by
  intro v σ H i sd dv Q q
  obtain ⟨u, e, dn⟩ := dv
  cases e
  cases dn with
  | tup a r =>
    refine ⟨gTup K n (WGs F es), fun z => by have := pg_tup (k := k1) (pos := pos) (fm.ca z) (wgs_pgs (F := F) (ts := es) z) (hn z) (hst z); rwa [fm.kk z] at this, _, _, rfl, a.sq, r.length.trans hl, ?_⟩
    exact h _ σ H i sd (sd_of_dn r) Q q
theorem tg_unl (fm : Fam P w K mg base N k sc F) {es : List Expr} {k1 : Nat} {pos : Pos} {ds : List PyData} {env1 : List Sl} (h : Tgs F W K es (ds.map .dat) env env1) (n : Nat) (hl : ds.length = n) (hn : ∀ i, (assignEach es (F i).env).length = n := by intro _; rfl)
    (hst : ∀ i, (assignEach es (F i).env).findIdx? (·.1) = none := by intro _; rfl) : Tg F W K (.Tuple es k1 pos) (.dat (.list ds)) env env1 := by
  intro v σ H i sd dv Q q
  obtain ⟨u, e, dn⟩ := dv
  cases e
  cases dn with
  | lst a r =>
    refine ⟨gUnl K n (WGs F es), fun z => by have := pg_unl (k := k1) (pos := pos) (fm.ca z) (wgs_pgs (F := F) (ts := es) z) (hn z) (hst z); rwa [fm.kk z] at this, _, _, rfl, a.sq, r.length.trans hl, ?_⟩
    exact h _ σ H i sd (sd_of_dn r) Q q

/-! ### statements -/
theorem bd_nil {Po : Post} (h : Po.nx env) : Bd F W K [] env Po := fun σ H D i sd g => ⟨tNext, fun _ => pss_nil, g.nx σ H env (Wx.refl W H) i sd h⟩
/-- x = e -/
theorem bd_set (fm : Fam P w K mg base N k sc F) {x : Str} {e : Expr} {pos' pos : Pos} {rest : List Stmt} {R : Sl → Prop} {Po : Post} (j : Nat) (hN : N[j]? = some x) (he : Ev F W K e env R) (hr : ∀ r, R r → Bd F W K rest (env.set j r) Po)
    (hx : locB sc x = true := by decide +kernel) (hs : ∀ i, swapsWith e (some (.Name x pos')) pos.line (F i).env = pure false := by intro _; rfl)
    (hf : ∀ i, (F i).fn x = true ∨ (F i).env.scope.names.lookup x = some .local := by intro _; first | exact Or.inl rfl | exact Or.inr rfl) : Bd F W K (.Assign [.Name x pos'] e pos :: rest) env Po := by
  intro σ H D i sd g
  refine ⟨tSeq (tAsg (WE F e) (gName j)) (WS F rest), fun z => pss_cons (ps_set (by rw [fm.nn z]; exact fm.nd) (by rw [fm.nn z]; exact hN) (loc_of (fm.es z) hx) (we_pe z) (hs z) (hf z)) (ws_ps z), ?_⟩
  refine he σ H i sd _ fun v H1 r x1 i1 d1 h1 => ?_
  exact hr r h1 _ _ _ i1 (Sd.set d1 j (sd.mono x1)) (g.mono x1)
/-- target = e -/
theorem bd_asg {tg e : Expr} {pos : Pos} {rest : List Stmt} {R : Sl → Prop} {Po : Post} (he : Ev F W K e env R) (hr : ∀ r, R r → ∃ env', Tg F W K tg r env env' ∧ Bd F W K rest env' Po)
    (hs : ∀ i, swapsWithSole [tg] e pos.line (F i).env = pure false := by intro _; rfl) (hw : ∀ i, swappedStores [tg] e (F i).env = pure none := by intro _; rfl) (h1 : ∀ i, (assignEach [tg] (F i).env).map (·.2) = [assign tg (F i).env] := by intro _; rfl) :
    Bd F W K (.Assign [tg] e pos :: rest) env Po := by
  intro σ H D i sd g
  refine ⟨tSeq (tAsg (WE F e) (WG F tg)) (WS F rest), fun z => pss_cons (ps_asg (we_pe z) (wg_pg z) (hs z) (hw z) (h1 z)) (ws_ps z), ?_⟩
  refine he σ H i sd _ fun v H1 r x1 i1 d1 hh => ?_
  obtain ⟨env', ht, hb⟩ := hr r hh
  exact ht v σ H1 i1 (sd.mono x1) d1 _ fun σ2 H2 x2 i2 sd2 => hb σ2 H2 _ i2 sd2 (g.mono (x1.trans x2))
/-- a, b = x, y -/
theorem bd_par (fm : Fam P w K mg base N k sc F) {x y : Str} {a b : Expr} {px py pt pos : Pos} {kt k2 pt2} {rest : List Stmt} {R : List Sl → Prop} {Po : Post} (i j : Nat) (hi : N[i]? = some x) (hj : N[j]? = some y) (hij : i ≠ j) (ha : EvA F W K [a, b] env R)
    (hr : ∀ r, R r → ∃ r1 r2, r = [r1, r2] ∧ Bd F W K rest ((env.set i r1).set j r2) Po)
    (hx : lclB sc x = true := by decide +kernel) (hy : lclB sc y = true := by decide +kernel)
    (hw : ∀ i, swappedStores [.Tuple [.Name x px, .Name y py] kt pt] (.Tuple [a, b] k2 pt2) (F i).env = pure (some [x, y]) := by intro _; rfl) (hs : ∀ i, swapsWithSole [.Tuple [.Name x px, .Name y py] kt pt] (.Tuple [a, b] k2 pt2) pos.line (F i).env = pure false := by intro _; rfl) :
    Bd F W K (.Assign [.Tuple [.Name x px, .Name y py] kt pt] (.Tuple [a, b] k2 pt2) pos :: rest) env Po := by
  intro σ H D ii sd g
  refine ⟨tSeq (tPar i j (WA F [a, b])) (WS F rest), fun z => pss_cons (ps_par (fm.ca z) (by rw [fm.nn z]; exact fm.nd) (by rw [fm.nn z]; exact hi) (by rw [fm.nn z]; exact hj) hij (lcl_of (fm.es z) hx) (lcl_of (fm.es z) hy) (wa_pa z) (hw z) (hs z)) (ws_ps z), ?_⟩
  refine ha σ H ii sd _ fun vs H1 rs x1 i1 d1 h1 => ?_
  obtain ⟨r1, r2, rfl, hb⟩ := hr rs h1
  match vs, d1 with
  | [v, u], ⟨dv, du, _⟩ => exact ⟨v, u, rfl, hb _ _ _ i1 (Sd.set du j (Sd.set dv i (sd.mono x1))) (g.mono x1)⟩
theorem bd_if {c : Expr} {a b rest : List Stmt} {pos : Pos} {R : Bool → Prop} {Po : Post} (hc : EvT F W K c env R) (h1 : R true → Bd F W K a env { Po with nx := fun e => Bd F W K rest e Po }) (h2 : R false → Bd F W K b env { Po with nx := fun e => Bd F W K rest e Po }) : Bd F W K (.If c a b pos :: rest) env Po := by
  intro σ H D i sd g
  refine ⟨tSeq (tIfS (WT F c) (WS F a) (WS F b)) (WS F rest), fun z => pss_cons (ps_if (wt_pt z) (ws_ps z) (ws_ps z)) (ws_ps z), ?_⟩
  refine hc σ H i sd _ fun t H1 x1 i1 ht => ?_
  have gg : Good W K { Po with nx := fun e => Bd F W K rest e Po } { D with nx := WS F rest D } H1 :=
    ⟨fun σ' H' e y i' s' hb => hb σ' H' D i' s' (g.mono (x1.trans y)), (g.mono x1).rt, (g.mono x1).bk, (g.mono x1).ct⟩
  cases t with
  | true => exact h1 ht σ H1 _ i1 (sd.mono x1) gg
  | false => exact h2 ht σ H1 _ i1 (sd.mono x1) gg
theorem bd_ret {e : Expr} {pos : Pos} {rest : List Stmt} {R : Sl → Prop} {Po : Post} (he : Ev F W K e env R) (h : ∀ r, R r → Po.rt r) : Bd F W K (.Return (some e) pos :: rest) env Po := by
  intro σ H D i sd g
  refine ⟨tSeq (tRet (WE F e)) (WS F rest), fun z => pss_cons (ps_ret (we_pe z)) (ws_ps z), ?_⟩
  exact he σ H i sd _ fun v H1 r x1 i1 d1 h1 => g.rt v H1 r x1 i1 d1 (h r h1)
theorem bd_if1 {c : Expr} {a b rest : List Stmt} {pos : Pos} {t : Bool} {Po : Post} (hc : T1 F W K c env t) (h1 : t = true → Bd F W K a env { Po with nx := fun e => Bd F W K rest e Po }) (h2 : t = false → Bd F W K b env { Po with nx := fun e => Bd F W K rest e Po }) : Bd F W K (.If c a b pos :: rest) env Po :=
  bd_if hc (fun e => h1 e.symm) fun e => h2 e.symm
theorem bd_ret1 {e : Expr} {pos : Pos} {rest : List Stmt} {r : Sl} {Po : Post} (he : E1 F W K e env r) (h : Po.rt r) : Bd F W K (.Return (some e) pos :: rest) env Po := bd_ret he fun _ z => z ▸ h
theorem bd_set1 (fm : Fam P w K mg base N k sc F) {x : Str} {e : Expr} {pos' pos : Pos} {rest : List Stmt} {r : Sl} {Po : Post} (j : Nat) (hN : N[j]? = some x) (he : E1 F W K e env r) (hr : Bd F W K rest (env.set j r) Po)
    (hx : locB sc x = true := by decide +kernel) (hs : ∀ i, swapsWith e (some (.Name x pos')) pos.line (F i).env = pure false := by intro _; rfl)
    (hf : ∀ i, (F i).fn x = true ∨ (F i).env.scope.names.lookup x = some .local := by intro _; first | exact Or.inl rfl | exact Or.inr rfl) : Bd F W K (.Assign [.Name x pos'] e pos :: rest) env Po := bd_set fm j hN he (fun _ z => z ▸ hr) hx hs hf
theorem bd_asg1 {tg e : Expr} {pos : Pos} {rest : List Stmt} {r : Sl} {env' : List Sl} {Po : Post} (he : E1 F W K e env r) (ht : Tg F W K tg r env env') (hb : Bd F W K rest env' Po)
    (hs : ∀ i, swapsWithSole [tg] e pos.line (F i).env = pure false := by intro _; rfl) (hw : ∀ i, swappedStores [tg] e (F i).env = pure none := by intro _; rfl) (h1 : ∀ i, (assignEach [tg] (F i).env).map (·.2) = [assign tg (F i).env] := by intro _; rfl) :
    Bd F W K (.Assign [tg] e pos :: rest) env Po := bd_asg he (fun _ z => ⟨env', z ▸ ht, hb⟩) hs hw h1
theorem bd_drop {e : Expr} {pos : Pos} {rest : List Stmt} {R : Sl → Prop} {Po : Post} (he : Ev F W K e env R) (h : Bd F W K rest env Po) (hs : ∀ i, swapsWith e none pos.line (F i).env = pure false := by intro _; rfl) : Bd F W K (.Expr e pos :: rest) env Po := by
  intro σ H D i sd g
  refine ⟨tSeq (tDrop (WE F e)) (WS F rest), fun z => pss_cons (ps_expr (we_pe z) (hs z)) (ws_ps z), ?_⟩
  exact he σ H i sd _ fun v H1 r x1 i1 d1 h1 => h _ _ _ i1 (sd.mono x1) (g.mono x1)

/-! ### for -/
/-- for tg in range(n) -/
theorem bd_forR (fm : Fam P w K mg base N k sc F) {tg a : Expr} {p pc pos : Pos} {body rest : List Stmt} {Po : Post} {n : Nat} (Iv : Nat → List Sl → Prop) (ha : A1 F W K [a] env [.int (n : Int)]) (hn : n ≤ 1000000) (hm : mg "range" = none) (h0 : Iv 0 env)
    (hs : ∀ (i : Nat) env1, i < n → Iv i env1 → ∃ env2, Tg F W K tg (.dat (.int (i : Int))) env1 env2 ∧ Bd F W K body env2 { Po with nx := Iv (i + 1), ct := Iv (i + 1), bk := fun e => Bd F W K rest e Po }) (hd : ∀ env1, Iv n env1 → Bd F W K rest env1 Po)
    (hg : glB sc "range" = true := by decide +kernel) (hp : ∀ i, PassesOwn (model (F i).prog (F i).w) (F i).A (F i).env (F i).xe := by intro _; exact PassesOwn.never) (st : ∀ i, starEach [a] (F i).env = [(false, eval a (F i).env)] := by intro _; rfl)
    (hf : ∀ i x, foldedSetIterable (.Call (.Name "range" p) [a] [] pc) (F i).env x = pure x := by intro _ _; rfl) : Bd F W K (.For tg (.Call (.Name "range" p) [a] [] pc) body [] pos :: rest) env Po := by
  intro σ H D ii sd g
  refine ⟨tSeq (tFor (iRng1 (WA F [a])) (WG F tg) (WS F body)) (WS F rest), fun z => pss_cons (ps_for (hp z) (fm.ca z) (pi_range1 (gl_of (fm.es z) hg) (by rw [fm.mg z]; exact hm) (wa_pa z) (st z)) (wg_pg z) (ws_ps z) (hf z)) (ws_ps z), ?_⟩
  refine ha σ H ii sd _ fun vs H1 rs x1 i1 d1 h1 => ?_
  subst h1
  match vs, d1 with
  | [v], ⟨⟨u, e, dn⟩, _⟩ =>
    cases e
    cases dn
    refine ⟨(n : Int), rfl, by omega, by omega, for_range (lo := 0) (n := (n : Int).toNat) (fun i σ' H' => ∃ e, Wx W H H' ∧ W.I H' ∧ Sd W K H' σ' e ∧ Iv i e) ⟨env, x1, i1, sd.mono x1, h0⟩ ?_ ?_⟩
    · intro i σ' H' hi ⟨e, x', i', s', iv⟩
      have e0 : (0 : Int) + (i : Int) = (i : Int) := by omega
      obtain ⟨env2, ht, hb⟩ := hs i e (by omega) iv
      have q := ht (.int (i : Int)) σ' H' i' s' (Dn.dv (.int _))
      rw [e0]
      refine q _ fun σ2 H2 x2 i2 s2 => ?_
      refine hb σ2 H2 _ i2 s2 ⟨fun σ3 H3 e3 y j s3 h3 => ⟨e3, (x'.trans x2).trans y, j, s3, h3⟩, fun v H3 r y => g.rt v H3 r ((x'.trans x2).trans y), fun σ3 H3 e3 y j s3 h3 => h3 σ3 H3 D j s3 (g.mono ((x'.trans x2).trans y)), fun σ3 H3 e3 y j s3 h3 => ⟨e3, (x'.trans x2).trans y, j, s3, h3⟩⟩
    · intro σ' H' ⟨e, x', i', s', iv⟩
      exact hd e (by simpa using iv) σ' H' D i' s' (g.mono x')
theorem list_loop {tg : Expr} {body rest : List Stmt} {Po : Post} {a : Addr} {xs : List V} {ds : List PyData} {D : Ends} {H H1 : Hp} {σ : L2.St} (Iv : Nat → List Sl → Prop) (g : Good W K Po D H) (x1 : Wx W H H1) (i1 : W.I H1) (sd : Sd W K H1 σ env) (la : LA W K H1 a xs) (da : DnAll W K H1 xs ds) (h0 : Iv 0 env)
    (hs : ∀ (i : Nat) d env1, ds[i]? = some d → Iv i env1 → ∃ env2, Tg F W K tg (.dat d) env1 env2 ∧ Bd F W K body env2 { Po with nx := Iv (i + 1), ct := Iv (i + 1), bk := fun e => Bd F W K rest e Po }) (hd : ∀ env1, Iv ds.length env1 → Bd F W K rest env1 Po) :
    ∃ Wl : Nat → Nat → L2.St → Hp → Prop, (∃ m, Wl 0 m σ H1) ∧ ∀ i m σ H, Wl i m σ H → ((Itl K a).stop i H ∧ WS F rest D σ H) ∨ ((Itl K a).go i H ∧ ∃ Nn : L2.St → Hp → Prop, (∀ σ' H', Nn σ' H' → ∃ m', m' < m ∧ Wl (i + 1) m' σ' H') ∧ ∀ x H', (Itl K a).yld i H x H' → WG F tg x σ H' fun σ2 H2 => WS F body { D with nx := Nn, ct := Nn, bk := WS F rest D } σ2 H2) := by
  refine for_list (D := { D with nx := WS F rest D }) (fun i σ' H' => ∃ e, Wx W H1 H' ∧ W.I H' ∧ Sd W K H' σ' e ∧ Iv i e) ⟨env, Wx.refl W H1, i1, sd, h0⟩ (fun i σ' H' _ ⟨e, x', _⟩ => (la.mono x').sq) ?_ ?_
  · intro i x σ' H' hx ⟨e, x', i', s', iv⟩
    obtain ⟨d, hd2, dn⟩ := da.getV hx
    obtain ⟨env2, ht, hb⟩ := hs i d e hd2 iv
    refine ht x σ' H' i' s' (dn.mono x').dv _ fun σ2 H2 x2 i2 s2 => ?_
    refine hb σ2 H2 _ i2 s2 ⟨fun σ3 H3 e3 y j s3 h3 => ⟨e3, (x'.trans x2).trans y, j, s3, h3⟩, fun v H3 r y => g.rt v H3 r (x1.trans ((x'.trans x2).trans y)), fun σ3 H3 e3 y j s3 h3 => h3 σ3 H3 D j s3 (g.mono (x1.trans ((x'.trans x2).trans y))), fun σ3 H3 e3 y j s3 h3 => ⟨e3, (x'.trans x2).trans y, j, s3, h3⟩⟩
  · intro σ' H' ⟨e, x', i', s', iv⟩
    rw [da.length] at iv
    exact hd e iv σ' H' D i' s' (g.mono (x1.trans x'))
/-- for tg in a list -/
theorem bd_forL (fm : Fam P w K mg base N k sc F) {tg a : Expr} {pos : Pos} {body rest : List Stmt} {Po : Post} {ds : List PyData} (Iv : Nat → List Sl → Prop) (ha : E1 F W K a env (.dat (.list ds))) (h0 : Iv 0 env)
    (hs : ∀ (i : Nat) d env1, ds[i]? = some d → Iv i env1 → ∃ env2, Tg F W K tg (.dat d) env1 env2 ∧ Bd F W K body env2 { Po with nx := Iv (i + 1), ct := Iv (i + 1), bk := fun e => Bd F W K rest e Po }) (hd : ∀ env1, Iv ds.length env1 → Bd F W K rest env1 Po)
    (hp : ∀ i, PassesOwn (model (F i).prog (F i).w) (F i).A (F i).env (F i).xe := by intro _; exact PassesOwn.never) (hf : ∀ i x, foldedSetIterable a (F i).env x = pure x := by intro _ _; rfl) : Bd F W K (.For tg a body [] pos :: rest) env Po := by
  intro σ H D ii sd g
  refine ⟨tSeq (tFor (iList K (WE F a)) (WG F tg) (WS F body)) (WS F rest), fun z => pss_cons (ps_for (hp z) (fm.ca z) (by have := pi_list (tg := tg) (we_pe (F := F) (e := a) z); rwa [fm.kk z] at this) (wg_pg z) (ws_ps z) (hf z)) (ws_ps z), ?_⟩
  refine ha σ H ii sd _ fun v H1 r x1 i1 d1 h1 => ?_
  subst h1
  obtain ⟨u, e, dn⟩ := d1
  cases e
  cases dn with
  | lst la da => exact ⟨_, rfl, ⟨_, la.sq⟩, list_loop Iv g x1 i1 (sd.mono x1) la da h0 hs hd⟩
end
end Cr

set_option Elab.async false
set_option linter.all false
set_option maxRecDepth 100000
set_option maxHeartbeats 4000000
namespace Cr
open PySem PySem.Spec PyProof.Rows L2

/-! ## worlds with one object more -/
def Wd.plus (W : Wd) (D : Addr) (o : HO) : Wd where
  M a := W.M a ∨ a = D
  I H := W.I H ∧ H D = some o
  has H a i m := by
    rcases m with m | rfl
    · exact W.has H a i.1 m
    · rw [i.2]; exact fun c => nomatch c
  loc H H' i x := ⟨W.loc H H' i.1 fun a m => x a (Or.inl m), (x D (Or.inr rfl)).trans i.2⟩
/-- what may change stands as it does at H0 -/
def Wd.lock (W : Wd) (H0 : Hp) : Wd where
  M := W.M
  I H := W.I H ∧ ∀ a, W.M a → H a = H0 a
  has H a i m := W.has H a i.1 m
  loc H H' i x := ⟨W.loc H H' i.1 x, fun a m => (x a m).trans (i.2 a m)⟩
theorem lock_xt {W : Wd} {H H' : Hp} (x : Wx (W.lock H) H H') (i : (W.lock H).I H') : Xt H H' := fun a o h => by
  by_cases m : W.M a
  · rw [i.2 a m]; exact h
  · exact x a o m h
section
variable {W W' : Wd} {K : PySem.W.Frag} {H : Hp}
theorem LA.to {a : Addr} {xs : List V} (h : LA W K H a xs) (s : ∀ a, H a ≠ none → W'.M a → W.M a) : LA W' K H a xs := ⟨fun m => h.1 (s _ (by rw [h.2]; exact fun c => nomatch c) m), h.2⟩
theorem TA'.to {a : Addr} {xs : List V} (h : TA' W K H a xs) (s : ∀ a, H a ≠ none → W'.M a → W.M a) : TA' W' K H a xs := h.imp (fun ⟨n, e⟩ => ⟨fun m => n (s _ (by rw [e]; exact fun c => nomatch c) m), e⟩) id
mutual
theorem Dn.to (s : ∀ a, H a ≠ none → W'.M a → W.M a) : ∀ {d : PyData} {v : V}, Dn W K H v d → Dn W' K H v d
  | .none, _, h => by cases h; exact .non
  | .bool _, _, h => by cases h; exact .bl _
  | .int _, _, h => by cases h; exact .int _
  | .str _, _, h => by cases h; exact .str _
  | .list ds, _, h => by
    cases h with
    | lst a r => exact .lst (a.to s) (DnAll.to s r)
  | .tuple ds, _, h => by
    cases h with
    | tup a r => exact .tup (a.to s) (DnAll.to s r)
  | .dict es, _, h => by
    cases h with
    | dct n a r => exact .dct (fun m => n (s _ (by rw [a]; exact fun c => nomatch c) m)) a (DnKv.to s r)
theorem DnAll.to (s : ∀ a, H a ≠ none → W'.M a → W.M a) : ∀ {ds : List PyData} {vs : List V}, DnAll W K H vs ds → DnAll W' K H vs ds
  | [], _, h => by cases h; exact .nil
  | d :: ds, _, h => by
    cases h with
    | cons a t => exact .cons (Dn.to s a) (DnAll.to s t)
theorem DnKv.to (s : ∀ a, H a ≠ none → W'.M a → W.M a) : ∀ {es : List (PyData × PyData)} {kvs : List (Key × V)}, DnKv W K H kvs es → DnKv W' K H kvs es
  | [], _, h => by cases h; exact .nil
  | (_, d) :: es, _, h => by
    cases h with
    | cons a t => exact .cons (Dn.to s a) (DnKv.to s t)
end
theorem OD.to (s : ∀ a, H a ≠ none → W'.M a → W.M a) : ∀ {o : HO} {d : PyData}, OD W K H o d → OD W' K H o d := by
  intro o d h
  unfold OD at h ⊢
  split at h
  · exact DnAll.to s h
  · exact DnKv.to s h
  · exact h.elim
theorem Dv.to (s : ∀ a, H a ≠ none → W'.M a → W.M a) {o : Option V} : ∀ {r : Sl}, Dv W K H o r → Dv W' K H o r
  | .dat _, ⟨v, e, h⟩ => ⟨v, e, h.to s⟩
  | .raw _, h => h
  | .any, h => h
  | .ml _ _ _, ⟨z, h⟩ => ⟨z, DnAll.to s h⟩
  | .od _ _ _, ⟨z, h⟩ => ⟨z, OD.to s h⟩
theorem Sd.to (s : ∀ a, H a ≠ none → W'.M a → W.M a) : ∀ {σ : L2.St} {env : List Sl}, Sd W K H σ env → Sd W' K H σ env
  | [], [], h => h
  | _ :: _, _ :: _, ⟨a, t⟩ => ⟨a.to s, Sd.to s t⟩
  | [], _ :: _, h => h.elim
  | _ :: _, [], h => h.elim
theorem plus_of {D : Addr} {o : HO} (h : H D = none) : ∀ a, H a ≠ none → (W.plus D o).M a → W.M a := fun a n m => m.elim id fun e => absurd (e ▸ h) n
theorem of_plus {D : Addr} {o : HO} : ∀ a, H a ≠ none → W.M a → (W.plus D o).M a := fun _ _ m => Or.inl m
theorem same_M {o o' : HO} {D : Addr} : ∀ a, H a ≠ none → (W.plus D o').M a → (W.plus D o).M a := fun _ _ m => m
end

/-! ## own defs -/
structure Own (P : Program) (w : World) (K : PySem.W.Frag) (mg : Str → Option Value) (base : Heap) (x : Str) (j : Nat) (ps : List Str) (sp : Sp) : Prop where
  ex : ∃ (f : Addr) (fd : FuncData), mg x = some (.ref f) ∧ PySem.W.keepIn K (.ref f) = true ∧ Binds K fd ps [] ∧ FnG P w K mg base j f fd ps sp
/-- a def that changes nothing: from data to data -/
def spF (K : PySem.W.Frag) (Fn : List PyData → PyData → Prop) : Sp := fun vs H Q _ => ∃ (W : Wd) (ds : List PyData) (r : PyData), W.I H ∧ DnAll W K H vs ds ∧ Fn ds r ∧ ∀ v H', Xt H H' → Dn W K H' v r → Q v H'
/-- .. from data to some data -/
def spN (K : PySem.W.Frag) (Rn : List PyData → PyData → Prop) (Pre : List PyData → Prop) : Sp := fun vs H Q _ => ∃ (W : Wd) (ds : List PyData), W.I H ∧ DnAll W K H vs ds ∧ Pre ds ∧ ∀ r v H', Rn ds r → Xt H H' → Dn W K H' v r → Q v H'
section
variable {ι : Type} {F : ι → Cx} {P : Program} {w : World} {K : PySem.W.Frag} {mg : Str → Option Value} {base : Heap} {N : List Str} {k : Nat} {sc : Scope} {W : Wd} {env : List Sl}
theorem ev_call (fm : Fam P w K mg base N k sc F) {x : Str} {j : Nat} {ps : List Str} {sp : Sp} {p pos : Pos} {e : Expr} {es : List Expr} {Ra : List Sl → Prop} {R : Sl → Prop} (o : Own P w K mg base x j ps sp) (hj : j ≤ k) (ha : EvA F W K (e :: es) env Ra)
    (hs : ∀ rs, Ra rs → ∀ (vs : List V) (H : Hp), W.I H → Sd W K H (vs.map some) rs → ∀ (Q : VK) (E : XK), (∀ v H' r, Wx W H H' → W.I H' → Dv W K H' (some v) r → R r → Q v H') → sp vs H Q E)
    (hg : glB sc x = true := by decide +kernel) (hdb : (x == ("__debug__" : Str)) = false := by decide) (st : ∀ i, starEach (e :: es) (F i).env = (false, eval e (F i).env) :: starEach es (F i).env := by intro _; rfl) (pl : ∀ i, (backTo pos (starEach es (F i).env)).any (·.1) = false := by intro _; rfl) :
    Ev F W K (.Call (.Name x p) (e :: es) [] pos) env R := by
  obtain ⟨f, fd, hm, hk, hb, G⟩ := o.ex
  intro σ H i sd Q q
  refine ⟨tCall sp [] E0 (WA F (e :: es)), fun z => ?_, ?_⟩
  · have GG : FnG (F z).prog (F z).w (F z).K (F z).mg (F z).base j f fd ps sp := by rw [fm.pr z, fm.wo z, fm.kk z, fm.mg z, fm.ba z]; exact G
    exact pe_callG GG (fm.gu z) ((fm.ro z).mono hj) (gl_of (fm.es z) hg) (by rw [fm.mg z]; exact hm) (by rw [fm.kk z]; exact hk) (by rw [fm.kk z]; exact hb) .nil (wa_pa z) E0 hdb (st z) (pl z)
  · refine ha σ H i sd _ fun vs H1 rs x1 i1 d1 h1 => ?_
    show sp (vs ++ []) H1 Q E0
    rw [List.append_nil]
    exact hs rs h1 vs H1 i1 d1 Q E0 fun v H' r x i' d h => q v H' r (x1.trans x) i' d h
theorem ev_pure (fm : Fam P w K mg base N k sc F) {x : Str} {j : Nat} {ps : List Str} {Fn : List PyData → PyData → Prop} {p pos : Pos} {e : Expr} {es : List Expr} {ds : List PyData} {r : PyData} (o : Own P w K mg base x j ps (spF K Fn)) (hj : j ≤ k) (ha : A1 F W K (e :: es) env ds) (hr : Fn ds r)
    (hg : glB sc x = true := by decide +kernel) (hdb : (x == ("__debug__" : Str)) = false := by decide) (st : ∀ i, starEach (e :: es) (F i).env = (false, eval e (F i).env) :: starEach es (F i).env := by intro _; rfl) (pl : ∀ i, (backTo pos (starEach es (F i).env)).any (·.1) = false := by intro _; rfl) :
    E1 F W K (.Call (.Name x p) (e :: es) [] pos) env (.dat r) :=
  ev_call fm o hj ha (fun rs h vs H i sd Q E q => by
    subst h
    exact ⟨W, ds, r, i, dn_of_sd sd, hr, fun v H' x dn => q v H' _ (x.wx W) (W.mono _ _ i x) dn.dv rfl⟩) hg hdb st pl
theorem ev_some (fm : Fam P w K mg base N k sc F) {x : Str} {j : Nat} {ps : List Str} {Rn : List PyData → PyData → Prop} {Pre : List PyData → Prop} {p pos : Pos} {e : Expr} {es : List Expr} {ds : List PyData} (o : Own P w K mg base x j ps (spN K Rn Pre)) (hj : j ≤ k) (ha : A1 F W K (e :: es) env ds) (hr : Pre ds)
    (hg : glB sc x = true := by decide +kernel) (hdb : (x == ("__debug__" : Str)) = false := by decide) (st : ∀ i, starEach (e :: es) (F i).env = (false, eval e (F i).env) :: starEach es (F i).env := by intro _; rfl) (pl : ∀ i, (backTo pos (starEach es (F i).env)).any (·.1) = false := by intro _; rfl) :
    Ev F W K (.Call (.Name x p) (e :: es) [] pos) env fun s => ∃ r, s = .dat r ∧ Rn ds r :=
  ev_call fm o hj ha (fun rs h vs H i sd Q E q => by
    subst h
    exact ⟨W, ds, i, dn_of_sd sd, hr, fun r v H' hrn x dn => q v H' _ (x.wx W) (W.mono _ _ i x) dn.dv ⟨r, rfl, hrn⟩⟩) hg hdb st pl
end

/-! ## a def by its body -/
abbrev DF (P : Program) (w : World) (K : PySem.W.Frag) (mg : Str → Option Value) (base : Heap) (N : List Str) (qual : Str) (sc : Scope) (f : Addr) (cdv : Value) (A : Around) (fr : List Env) (s : Shared) (H : Hp) (E : XK) : Unit → Cx :=
  fun _ => (cxOf CXn P w K mg base N qual sc f cdv A fr s H E).nox
def startE (N : List Str) (ds : List Sl) : List Sl := ds ++ List.replicate (N.length - ds.length) .any
theorem start_sd {W : Wd} {K : PySem.W.Frag} {H : Hp} {N : List Str} {vs : List V} {rs : List Sl} (h : Sd W K H (vs.map some) rs) : Sd W K H (L2.start N vs) (startE N rs) := by
  have app : ∀ {a b : L2.St} {c d : List Sl}, Sd W K H a c → Sd W K H b d → Sd W K H (a ++ b) (c ++ d) := by
    intro a b c d h1 h2
    induction a generalizing c with
    | nil =>
      cases c with
      | nil => exact h2
      | cons _ _ => exact h1.elim
    | cons x a ih =>
      cases c with
      | nil => exact h1.elim
      | cons y c => exact ⟨h1.1, ih h1.2⟩
  have len : ∀ {a : L2.St} {c : List Sl}, Sd W K H a c → a.length = c.length := by
    intro a c h1
    induction a generalizing c with
    | nil =>
      cases c with
      | nil => rfl
      | cons _ _ => exact h1.elim
    | cons x a ih =>
      cases c with
      | nil => exact h1.elim
      | cons y c => exact congrArg (· + 1) (ih h1.2)
  have l := len h
  rw [List.length_map] at l
  unfold L2.start startE
  rw [l]
  exact app h (Sd.nones _)
section
variable {P : Program} {w : World} {K : PySem.W.Frag} {mg : Str → Option Value} {base : Heap} {k : Nat} {x qual : Str} {st : Stmt} {f : Addr} {fd : FuncData} {N ps : List Str}
/-- the general form: slots that stand for rs, a world W, what comes -/
theorem fn_body {sp : Sp} (Fu : Fun K x qual st f fd) (S : FnScope N ps (defScope st)) (len : ∀ vs H Q E, sp vs H Q E → vs.length = ps.length)
    (body : ∀ (vs : List V) (H : Hp) (Q : VK) (E : XK), sp vs H Q E → ∃ (W : Wd) (rs : List Sl) (Po : Post), W.I H ∧ Sd W K H (vs.map some) rs ∧
      (∀ (cdv : Value) (A : Around) (fr : List Env) (s : Shared), Fam P w K mg base N k (defScope st) (DF P w K mg base N qual (defScope st) f cdv A fr s H E) → Bd (DF P w K mg base N qual (defScope st) f cdv A fr s H E) W K (defBody st) (startE N rs) Po) ∧
      (∀ env H', Wx W H H' → W.I H' → Po.nx env → Q .non H') ∧ (∀ v H' r, Wx W H H' → W.I H' → Dv W K H' (some v) r → Po.rt r → Q v H') ∧ (∀ e, ¬ Po.bk e) ∧ (∀ e, ¬ Po.ct e)) : FnG P w K mg base (k + 1) f fd ps sp := by
  obtain ⟨oc, od, kV, doc, pm, an, cdv, ct, osl, rfl, lk, hcd⟩ := Fu.ex
  refine fnG_of lk hcd S len fun A fr s H vs Q E g hr hsp => ?_
  obtain ⟨W, rs, Po, i, sd, hb, hn, ht, h3, h4⟩ := body vs H Q E hsp
  have fm : Fam P w K mg base N k (defScope st) (DF P w K mg base N qual (defScope st) f cdv A fr s H E) := ⟨fun _ => rfl, S.kind, fun _ => rfl, fun _ => rfl, fun _ => rfl, fun _ => rfl, fun _ => rfl, fun _ => rfl, S.nd, fun _ => rfl, fun _ => g, fun _ => hr⟩
  refine ⟨WS (DF P w K mg base N qual (defScope st) f cdv A fr s H E) (defBody st), PSs.nox (X := cxOf CXn P w K mg base N qual (defScope st) f cdv A fr s H E) (ws_ps (F := DF P w K mg base N qual (defScope st) f cdv A fr s H E) ()), ?_⟩
  exact hb cdv A fr s fm _ H _ i (start_sd sd) ⟨fun σ' H' e x i' s' h => hn e H' x i' h, fun v H' r x i' d h => ht v H' r x i' d h, fun σ' H' e x i' s' h => absurd h (h3 e), fun σ' H' e x i' s' h => absurd h (h4 e)⟩
/-- a def from data to data -/
theorem fn_pure {Fn : List PyData → PyData → Prop} (Fu : Fun K x qual st f fd) (S : FnScope N ps (defScope st)) (len : ∀ ds r, Fn ds r → ds.length = ps.length)
    (body : ∀ (cdv : Value) (A : Around) (fr : List Env) (s : Shared) (H : Hp) (E : XK) (W : Wd) (ds : List PyData) (r : PyData), Fam P w K mg base N k (defScope st) (DF P w K mg base N qual (defScope st) f cdv A fr s H E) → Fn ds r →
      Bd (DF P w K mg base N qual (defScope st) f cdv A fr s H E) W K (defBody st) (startE N (ds.map .dat)) { nx := fun _ => r = .none, rt := fun z => z = .dat r }) : FnG P w K mg base (k + 1) f fd ps (spF K Fn) := by
  refine fn_body Fu S (fun vs H Q E ⟨W, ds, r, _, dn, hr, _⟩ => by rw [dn.length]; exact len ds r hr) fun vs H Q E ⟨W, ds, r, i, dn, hr, q⟩ => ?_
  have same : ∀ a, H a ≠ none → (W.lock H).M a → W.M a := fun _ _ m => m
  refine ⟨W.lock H, ds.map .dat, _, ⟨i, fun _ _ => rfl⟩, sd_of_dn (dn.to same), fun cdv A fr s fm => body cdv A fr s H E (W.lock H) ds r fm hr, fun env H' xx ii e => ?_, fun v H' r' xx ii dv e => ?_, fun _ z => z, fun _ z => z⟩
  · refine q .non H' (lock_xt xx ii) ?_
    rw [show r = .none from e]
    exact .non
  · rw [show r' = .dat r from e] at dv
    obtain ⟨u, z, d⟩ := dv
    cases z
    exact q v H' (lock_xt xx ii) (Dn.to (W := W.lock H) (W' := W) (fun _ _ m => m) d)
theorem fn_some {Rn : List PyData → PyData → Prop} {Pre : List PyData → Prop} (Fu : Fun K x qual st f fd) (S : FnScope N ps (defScope st)) (len : ∀ ds, Pre ds → ds.length = ps.length)
    (body : ∀ (cdv : Value) (A : Around) (fr : List Env) (s : Shared) (H : Hp) (E : XK) (W : Wd) (ds : List PyData), Fam P w K mg base N k (defScope st) (DF P w K mg base N qual (defScope st) f cdv A fr s H E) → Pre ds →
      Bd (DF P w K mg base N qual (defScope st) f cdv A fr s H E) W K (defBody st) (startE N (ds.map .dat)) { nx := fun _ => Rn ds .none, rt := fun z => ∃ r, z = .dat r ∧ Rn ds r }) : FnG P w K mg base (k + 1) f fd ps (spN K Rn Pre) := by
  refine fn_body Fu S (fun vs H Q E ⟨W, ds, _, dn, hr, _⟩ => by rw [dn.length]; exact len ds hr) fun vs H Q E ⟨W, ds, i, dn, hr, q⟩ => ?_
  refine ⟨W.lock H, ds.map .dat, _, ⟨i, fun _ _ => rfl⟩, sd_of_dn (DnAll.to (W := W) (W' := W.lock H) (fun _ _ m => m) dn), fun cdv A fr s fm => body cdv A fr s H E (W.lock H) ds fm hr, fun env H' xx ii e => ?_, fun v H' r' xx ii dv e => ?_, fun _ z => z, fun _ z => z⟩
  · exact q .none .non H' e (lock_xt xx ii) .non
  · obtain ⟨r, rfl, h⟩ := e
    obtain ⟨u, z, d⟩ := dv
    cases z
    exact q r v H' h (lock_xt xx ii) (Dn.to (W := W.lock H) (W' := W) (fun _ _ m => m) d)
theorem own_of {sp : Sp} {j : Nat} (G : FnG P w K mg base j f fd ps sp) (hm : mg x = some (.ref f)) (Fu : Fun K x qual st f fd)
    (h : ∀ (kV doc pm : Value) (an : Option Addr) (cdv ct : Value) (us : List Value), us.length = ps.length → bindArgs (PySem.W.fnOf x qual (defArgs st) (defBody st) (defScope st) .none kV doc pm an cdv ct) ⟨us, []⟩ = pure (ps.zip us)) : Own P w K mg base x j ps sp :=
  ⟨f, fd, hm, Fu.kp, Fu.binds h, G⟩
end
end Cr

set_option Elab.async false
set_option linter.all false
set_option maxRecDepth 100000
set_option maxHeartbeats 4000000
namespace Cr
open PySem PySem.Spec PyProof.Rows L2

/-! ## comprehensions over a list of data, one name -/
abbrev FB {ι : Type} (F : ι → Cx) (scope : Scope) : (ι × Shared × Hp × Addr × List (Str × Addr) × List Addr) → Cx :=
  fun z => (F z.1).blk z.2.1 z.2.2.1 scope (compEnvC scope z.2.2.2.2.1 z.2.2.2.1 (F z.1).env) z.2.2.2.2.2
section
variable {ι : Type} {F : ι → Cx} {P : Program} {w : World} {K : PySem.W.Frag} {mg : Str → Option Value} {base : Heap} {N : List Str} {k : Nat} {sc : Scope} {W : Wd} {env : List Sl}
theorem Fam.blk (fm : Fam P w K mg base N k sc F) (scope : Scope) (hk : scope.kind = .function) : Fam P w K mg base N k (relS scope sc) (FB F scope) :=
  ⟨fun z => by rw [← fm.es z.1] <;> rfl, hk, fun z => fm.pr z.1, fun z => fm.wo z.1, fun z => fm.kk z.1, fun z => fm.mg z.1, fun z => fm.ba z.1, fun z => fm.nn z.1, fm.nd, fun z => fm.ca z.1, fun z => fm.gu z.1, fun z => fm.ro z.1⟩
def WTs (F : ι → Cx) (ifs : List Expr) : TT := fun σ H Q => ∃ t, (∀ i, PTs (F i) ifs t) ∧ t σ H Q
theorem wts_pts {ifs : List Expr} (i : ι) : PTs (F i) ifs (WTs F ifs) := ⟨fun pins s σ H Q I h => by
  obtain ⟨t, ht, q⟩ := h
  exact (ht i).run pins s σ H Q I q⟩
/-- the tests of a clause, with one answer -/
def EvIf (F : ι → Cx) (W : Wd) (K : PySem.W.Frag) (ifs : List Expr) (env : List Sl) (b : Bool) : Prop :=
  ∀ (σ : L2.St) (H : Hp), W.I H → Sd W K H σ env → ∀ Q : Bool → Hp → Prop, (∀ H', Wx W H H' → W.I H' → Q b H') → WTs F ifs σ H Q
theorem if_nil : EvIf F W K [] env true := fun σ H i sd Q q => ⟨tYes, fun _ => pts_nil, q H (Wx.refl W H) i⟩
theorem if_one {c : Expr} {b : Bool} (h : T1 F W K c env b) : EvIf F W K [c] env b := fun σ H i sd Q q => ⟨WT F c, fun z => pts_one (wt_pt z), h σ H i sd Q fun c' H' x i' e => by subst e; exact q H' x i'⟩
theorem wipe_set {σ : L2.St} {v : V} (j : Nat) : L2.wipe ((L2.wipe σ [j]).set j (some v)) [j] = L2.wipe σ [j] := by
  show ((σ.set j none).set j (some v)).set j none = σ.set j none
  rw [List.set_set, List.set_set]
theorem paired_app {α β : Type} {R : α → β → Prop} : ∀ {a : List α} {b : List β} {c : List α} {d : List β}, Paired R a b → Paired R c d → Paired R (a ++ c) (b ++ d)
  | _, _, _, _, .nil, h => h
  | _, _, _, _, .cons r t, h => .cons r (paired_app t h)
/-- the turns of a comprehension: which are kept (f), what they give (R) -/
theorem lc_turns {elt : Expr} {ifs : List Expr} {scope : Scope} {j : Nat} {ds : List PyData} {xs : List V} {a D : Addr} {H1 : Hp} {σ : L2.St} {f : Nat → Bool} {R : Nat → PyData → Prop} {Q : VK} (i1 : W.I H1) (sd : Sd W K H1 σ env) (la : LA W K H1 a xs) (da : DnAll W K H1 xs ds) (hD : H1 D = none) (hz : ds.length ≤ sizeLine)
    (ht : ∀ i d D acc, ds[i]? = some d → ¬ W.M D → EvIf (FB F scope) (W.plus D (.lst acc)) K ifs ((env.set j .any).set j (.dat d)) (f i))
    (he : ∀ i d D acc, ds[i]? = some d → f i = true → ¬ W.M D → Ev (FB F scope) (W.plus D (.lst acc)) K elt ((env.set j .any).set j (.dat d)) fun s => ∃ e, s = .dat e ∧ R i e)
    (q : ∀ H' es, Wx W H1 H' → W.I H' → Dn W K H' (.ref D) (.list es) → Paired (fun i e => R i e) ((List.range ds.length).filter f) es → Q (.ref D) H') :
    ∃ Wl : Nat → Nat → Hp → Prop, (∃ m, Wl 0 m (upd H1 D (.lst []))) ∧ ∀ i m H, Wl i m H →
      ((Itl K a).stop i H ∧ Q (.ref D) H) ∨ ((Itl K a).go i H ∧ ∃ Nx : Hp → Prop, (∀ H', Nx H' → ∃ m', m' < m ∧ Wl (i + 1) m' H') ∧ ∀ x H', (Itl K a).yld i H x H' → gName j x (L2.wipe σ [j]) H' fun σ2 H2 => L2.wipe σ2 [j] = L2.wipe σ [j] ∧ WTs (FB F scope) ifs σ2 H2 fun b H3 =>
        if b = true then WE (FB F scope) elt σ2 H3 fun y H4 => ∃ acc, H4 D = some (.lst acc) ∧ acc.length < sizeLine ∧ Nx (upd H4 D (.lst (acc ++ [y]))) else Nx H3) := by
  have nD : ¬ W.M D := fun m => W.has H1 D i1 m hD
  refine lc_list (K := K) (a := a) (xs := xs) (fun i H' => ∃ acc es, (W.plus D (.lst acc)).I H' ∧ Wx (W.plus D (.lst acc)) H1 H' ∧ DnAll (W.plus D (.lst acc)) K H' acc es ∧ Paired (fun i e => R i e) ((List.range i).filter f) es) ?_ ?_ ?_ ?_
  · exact ⟨[], [], ⟨W.mono _ _ i1 (Xt.new hD), upd_same⟩, fun p o _ h => Xt.new hD p o h, .nil, .nil⟩
  · intro i H' _ ⟨acc, es, _, x, _⟩
    refine SqL.of (x a _ (fun m => ?_) la.2)
    exact m.elim la.1 fun e => ne_of_none la.2 hD e
  · intro i x H' hx ⟨acc, es, ii, xx, dn, pr⟩
    obtain ⟨d, hd, dx⟩ := da.getV hx
    have to1 : ∀ b, H1 b ≠ none → (W.plus D (.lst acc)).M b → W.M b := plus_of hD
    have sd' : Sd (W.plus D (.lst acc)) K H' ((L2.wipe σ [j]).set j (some x)) ((env.set j .any).set j (.dat d)) := Sd.set ((dx.to to1).mono xx).dv j (((sd.to to1).wipe [j]).mono xx)
    refine ⟨wipe_set j, ?_⟩
    refine ht i d D acc hd nD _ H' ii sd' _ fun H3 x3 i3 => ?_
    have lt : acc.length ≤ i := by
      have l1 := dn.length
      have l2 := Paired.length pr
      have l3 := List.length_filter_le f (List.range i)
      rw [List.length_range] at l3
      omega
    have il : i < ds.length := (List.getElem?_eq_some_iff.mp hd).1
    cases hf : f i with
    | true =>
      refine he i d D acc hd hf nD _ H3 i3 (sd'.mono x3) _ fun y H4 r x4 i4 d4 h4 => ?_
      obtain ⟨e, rfl, hR⟩ := h4
      obtain ⟨u, z, dy⟩ := d4
      cases z
      have up : Wx (W.plus D (.lst acc)) H4 (upd H4 D (.lst (acc ++ [y]))) := fun p o n h => by
        rw [upd_ne fun z => n (Or.inr z)]
        exact h
      refine ⟨acc, i4.2, by omega, acc ++ [y], es ++ [e], ⟨W.loc _ _ i4.1 fun b m => upd_ne fun z => nD (z ▸ m), upd_same⟩, ?_, ?_, ?_⟩
      · intro p o n h
        exact up p o n (x4 p o n (x3 p o n (xx p o n h)))
      · refine DnAll.to (W := W.plus D (.lst acc)) (W' := W.plus D (.lst (acc ++ [y]))) (fun _ _ m => m) (DnAll.mono up ?_)
        exact ((dn.mono x3).mono x4).append (.cons dy .nil)
      · rw [List.range_succ, List.filter_append, List.filter_cons, if_pos hf]
        exact paired_app pr (.cons hR .nil)
    | false =>
      refine ⟨acc, es, i3, fun p o n h => x3 p o n (xx p o n h), dn.mono x3, ?_⟩
      rw [List.range_succ, List.filter_append, List.filter_cons, if_neg (by rw [hf]; exact Bool.false_ne_true)]
      show Paired _ (_ ++ []) es
      rw [List.append_nil]
      exact pr
  · intro H' ⟨acc, es, ii, xx, dn, pr⟩
    rw [da.length] at pr
    refine q H' es (fun p o n h => xx p o (fun m => m.elim n fun z => ?_) h) ii.1 ?_ pr
    · rw [z, hD] at h
      exact nomatch h
    · exact .lst ⟨nD, ii.2⟩ (DnAll.to (W := W.plus D (.lst acc)) (W' := W) (fun _ _ m => Or.inl m) dn)

/-- what a comprehension's rules ask besides -/
def lcB (N : List Str) (sc scope : Scope) (x : Str) (j : Nat) : Bool := blkC N sc scope [(x, j)] && locB (relS scope sc) x && (scope.names.lookup x == some .cell || (relS scope sc).names.lookup x == some .local)
theorem lc_gName (fm : Fam P w K mg base N k sc F) {x : Str} {j : Nat} {scope : Scope} {px : Pos} (o : lcB N sc scope x j = true) (hN : N[j]? = some x) (z : ι) (s : Shared) (H : Hp) (C : Addr) (cl : List (Str × Addr)) (fp : List Addr) : PG ((F z).blk s H scope (compEnvC scope cl C (F z).env) fp) (.Name x px) (gName j) := by
  unfold lcB at o
  rw [Bool.and_eq_true, Bool.and_eq_true, Bool.or_eq_true] at o
  obtain ⟨⟨_, o2⟩, o3⟩ := o
  have es : (relabel scope (F z).env) = relS scope sc := by rw [← fm.es z] <;> rfl
  refine pg_name (by show (F z).N.Nodup; rw [fm.nn z]; exact fm.nd) (by show (F z).N[j]? = _; rw [fm.nn z]; exact hN) (loc_of es o2) ?_
  rcases o3 with o3 | o3
  · exact Or.inl o3
  · refine Or.inr ?_
    show (relabel scope (F z).env).names.lookup x = _
    rw [es]
    exact beq_iff_eq.mp o3
theorem lc_ok (fm : Fam P w K mg base N k sc F) {x : Str} {j : Nat} {scope : Scope} (o : lcB N sc scope x j = true) (z : ι) : BlkOk (F z).N (F z).env.scope scope [(x, j)] := by
  unfold lcB at o
  rw [Bool.and_eq_true, Bool.and_eq_true] at o
  rw [fm.nn z, fm.es z]
  exact blkOk_by o.1.1
theorem lc_kind {x : Str} {j : Nat} {scope : Scope} (o : lcB N sc scope x j = true) : scope.kind = .function := by
  unfold lcB at o
  rw [Bool.and_eq_true, Bool.and_eq_true] at o
  exact (blkOk_by o.1.1).kind
theorem paired3 {R : Nat → PyData → Prop} {es : List PyData} (h : Paired (fun i e => R i e) ((List.range 3).filter fun _ => true) es) : ∃ a b c, es = [a, b, c] ∧ R 0 a ∧ R 1 b ∧ R 2 c := by
  have h' : Paired (fun i e => R i e) [0, 1, 2] es := h
  match es, h' with
  | [a, b, c], .cons x (.cons y (.cons z .nil)) => exact ⟨a, b, c, rfl, x, y, z⟩
/-- the reading of [elt for x in l if ..], l a list of data -/
theorem lc_readL {elt iter : Expr} {ifs : List Expr} {scope : Scope} {j : Nat} {ds : List PyData} {f : Nat → Bool} {R : Nat → PyData → Prop} (hi : E1 F W K iter env (.dat (.list ds))) (hz : ds.length ≤ sizeLine)
    (ht : ∀ i d D acc, ds[i]? = some d → ¬ W.M D → EvIf (FB F scope) (W.plus D (.lst acc)) K ifs ((env.set j .any).set j (.dat d)) (f i))
    (he : ∀ i d D acc, ds[i]? = some d → f i = true → ¬ W.M D → Ev (FB F scope) (W.plus D (.lst acc)) K elt ((env.set j .any).set j (.dat d)) fun s => ∃ e, s = .dat e ∧ R i e)
    (σ : L2.St) (H : Hp) (ii : W.I H) (sd : Sd W K H σ env) (Q : VK) (q : ∀ v H' es, Wx W H H' → W.I H' → Dn W K H' v (.list es) → Paired (fun i e => R i e) ((List.range ds.length).filter f) es → Q v H') :
    tLc (iList K (WE F iter)) (gName j) (WTs (FB F scope) ifs) (WE (FB F scope) elt) [j] σ H Q := by
  refine hi σ H ii sd _ fun v H1 r x1 i1 d1 h1 => ?_
  subst h1
  obtain ⟨u, z, n1⟩ := d1
  cases z
  cases n1 with
  | lst la da =>
    refine ⟨_, rfl, ⟨_, la.sq⟩, fun D hD => ?_⟩
    exact lc_turns i1 (sd.mono x1) la da hD hz ht he fun H' es x' i' dn pr => q _ H' es (x1.trans x') i' dn pr
theorem ev_lc (fm : Fam P w K mg base N k sc F) {x : Str} {px pos : Pos} {elt iter : Expr} {ifs : List Expr} {scope : Scope} {ds : List PyData} {f : Nat → Bool} {R : Nat → PyData → Prop} (j : Nat) (hN : N[j]? = some x) (o : lcB N sc scope x j = true) (hi : E1 F W K iter env (.dat (.list ds)))
    (ht : ∀ i d D acc, ds[i]? = some d → ¬ W.M D → Fam P w K mg base N k (relS scope sc) (FB F scope) → EvIf (FB F scope) (W.plus D (.lst acc)) K ifs ((env.set j .any).set j (.dat d)) (f i))
    (he : ∀ i d D acc, ds[i]? = some d → f i = true → ¬ W.M D → Fam P w K mg base N k (relS scope sc) (FB F scope) → Ev (FB F scope) (W.plus D (.lst acc)) K elt ((env.set j .any).set j (.dat d)) fun s => ∃ e, s = .dat e ∧ R i e)
    (hz : ds.length ≤ sizeLine) (hf : ∀ i x, foldedSetIterable iter (F i).env x = pure x := by intro _ _; rfl) :
    Ev F W K (.ListComp elt [⟨.Name x px, iter, ifs, 0⟩] scope pos) env fun s => ∃ es, s = .dat (.list es) ∧ Paired (fun i e => R i e) ((List.range ds.length).filter f) es := by
  intro σ H ii sd Q q
  refine ⟨_, fun z => ?_, lc_readL hi hz (fun i d D acc a b => ht i d D acc a b (fm.blk scope (lc_kind o))) (fun i d D acc a b c => he i d D acc a b c (fm.blk scope (lc_kind o))) σ H ii sd Q fun v H' es x' i' dn pr => q v H' _ x' i' dn.dv ⟨es, rfl, pr⟩⟩
  have h1 := pi_list (tg := .Name x px) (we_pe (F := F) (e := iter) z)
  rw [fm.kk z] at h1
  exact pe_lc (own := [(x, j)]) (fm.ca z) (by rw [fm.nn z]; exact fm.nd) h1 (lc_ok fm o z) (fun s H C cl fp => lc_gName fm o hN z s H C cl fp) (fun s H C cl fp => wts_pts (F := FB F scope) (z, s, H, C, cl, fp)) (fun s H C cl fp => we_pe (F := FB F scope) (z, s, H, C, cl, fp)) (hf z)
/-- y = [elt for x in l if ..] -/
theorem bd_lc (fm : Fam P w K mg base N k sc F) {x y : Str} {px py pos spos : Pos} {elt iter : Expr} {ifs : List Expr} {scope : Scope} {ds : List PyData} {f : Nat → Bool} {R : Nat → PyData → Prop} {rest : List Stmt} {Po : Post} (n j : Nat) (hY : N[n]? = some y) (hN : N[j]? = some x) (o : lcB N sc scope x j = true) (hi : E1 F W K iter env (.dat (.list ds)))
    (ht : ∀ i d D acc, ds[i]? = some d → ¬ W.M D → Fam P w K mg base N k (relS scope sc) (FB F scope) → EvIf (FB F scope) (W.plus D (.lst acc)) K ifs ((env.set j .any).set j (.dat d)) (f i))
    (he : ∀ i d D acc, ds[i]? = some d → f i = true → ¬ W.M D → Fam P w K mg base N k (relS scope sc) (FB F scope) → Ev (FB F scope) (W.plus D (.lst acc)) K elt ((env.set j .any).set j (.dat d)) fun s => ∃ e, s = .dat e ∧ R i e)
    (hz : ds.length ≤ sizeLine) (hr : ∀ es, Paired (fun i e => R i e) ((List.range ds.length).filter f) es → Bd F W K rest (env.set n (.dat (.list es))) Po)
    (hl : lclB sc y = true := by decide +kernel) (sl : (py.line == pos.line) = true := by rfl) (sa : (scope.names.any fun (n, k) => n == y && (k == .local || k == .cell)) = false := by decide +kernel)
    (hf : ∀ i x, foldedSetIterable iter (F i).env x = pure x := by intro _ _; rfl) : Bd F W K (.Assign [.Name y py] (.ListComp elt [⟨.Name x px, iter, ifs, 0⟩] scope pos) spos :: rest) env Po := by
  intro σ H D ii sd g
  refine ⟨tSeq (tAsg (tLc (iList K (WE F iter)) (gName j) (WTs (FB F scope) ifs) (WE (FB F scope) elt) [j]) (gName n)) (WS F rest), fun z => ?_, lc_readL hi hz (fun i d D acc a b => ht i d D acc a b (fm.blk scope (lc_kind o))) (fun i d D acc a b c => he i d D acc a b c (fm.blk scope (lc_kind o))) σ H ii sd (fun v H1 => gName n v σ H1 (WS F rest D)) fun v H' es x' i' dn pr => hr es pr _ _ _ i' (Sd.set dn.dv n (sd.mono x')) (g.mono x')⟩
  have h1 := pi_list (tg := .Name x px) (we_pe (F := F) (e := iter) z)
  rw [fm.kk z] at h1
  exact pss_cons (ps_setLc (own := [(x, j)]) (fm.ca z) (by rw [fm.nn z]; exact fm.nd) (by rw [fm.nn z]; exact hY) (lcl_of (fm.es z) hl) (sw_true (by rw [fm.es z]; exact fm.kd) (lcl_of (fm.es z) hl) sl sa) h1 (lc_ok fm o z) (fun s H C cl fp => lc_gName fm o hN z s H C cl fp) (fun s H C cl fp => wts_pts (F := FB F scope) (z, s, H, C, cl, fp)) (fun s H C cl fp => we_pe (F := FB F scope) (z, s, H, C, cl, fp)) (hf z)) (ws_ps z)
end

/-! ## the pot that the laws draw from -/
def Pot (p c : Addr) (ns : List Int) (H : Hp) : Prop := p ≠ c ∧ (∃ i x y : Int, H p = some (.lst [.ref c, .int i, .int x, .int y])) ∧ H c = some (.lst (ns.map V.int))
def potW (p c : Addr) (ns : List Int) : Wd where
  M a := a = p ∨ a = c
  I := Pot p c ns
  has H a i m := by
    obtain ⟨_, ⟨i, x, y, h⟩, h'⟩ := i
    rcases m with rfl | rfl
    · rw [h]; exact fun z => nomatch z
    · rw [h']; exact fun z => nomatch z
  loc H H' i h := by
    obtain ⟨n, ⟨i, x, y, e⟩, e'⟩ := i
    exact ⟨n, ⟨i, x, y, (h p (Or.inl rfl)).trans e⟩, (h c (Or.inr rfl)).trans e'⟩
/-- a world in which the pot at p, its numbers at c, may be drawn from -/
structure Draws (W : Wd) (p c : Addr) (ns : List Int) : Prop where
  mp : W.M p
  mc : W.M c
  pot : ∀ H, W.I H → Pot p c ns H
  step : ∀ H H', W.I H → (∀ a, W.M a → a ≠ p → H' a = H a) → Pot p c ns H' → W.I H'
theorem draws_pot {p c : Addr} {ns : List Int} : Draws (potW p c ns) p c ns := ⟨Or.inl rfl, Or.inr rfl, fun _ i => i, fun _ _ _ _ h => h⟩
theorem Draws.plus {W : Wd} {p c D : Addr} {ns : List Int} {o : HO} (d : Draws W p c ns) (h : ¬ W.M D) : Draws (W.plus D o) p c ns :=
  ⟨Or.inl d.mp, Or.inl d.mc, fun H i => d.pot H i.1, fun H H' i x q => ⟨d.step H H' i.1 (fun a m => x a (Or.inl m)) q, (x D (Or.inr rfl) fun e => h (e ▸ d.mp)).trans i.2⟩⟩
/-- a def that draws: its first argument is the pot -/
def spD (K : PySem.W.Frag) (Pre : List PyData → Prop) (Rn : List PyData → PyData → Prop) : Sp := fun vs H Q _ => ∃ (W : Wd) (p c : Addr) (ns : List Int) (us : List V) (ds : List PyData), vs = .ref p :: us ∧ Draws W p c ns ∧ W.I H ∧ DnAll W K H us ds ∧ Pre ds ∧
  ∀ r v H', Rn ds r → (∀ a o, a ≠ p → H a = some o → H' a = some o) → W.I H' → Dn W K H' v r → Q v H'
section
variable {ι : Type} {F : ι → Cx} {P : Program} {w : World} {K : PySem.W.Frag} {mg : Str → Option Value} {base : Heap} {N : List Str} {k : Nat} {sc : Scope} {W : Wd} {env : List Sl}
theorem ev_draw (fm : Fam P w K mg base N k sc F) {x : Str} {j : Nat} {ps : List Str} {Pre : List PyData → Prop} {Rn : List PyData → PyData → Prop} {q pos : Pos} {e : Expr} {es : List Expr} {ds : List PyData} {p c : Addr} {ns : List Int} (dw : Draws W p c ns) (o : Own P w K mg base x j ps (spD K Pre Rn)) (hj : j ≤ k)
    (ha : EvA F W K (e :: es) env fun rs => rs = .raw (.ref p) :: ds.map .dat) (hr : Pre ds)
    (hg : glB sc x = true := by decide +kernel) (hdb : (x == ("__debug__" : Str)) = false := by decide) (st : ∀ i, starEach (e :: es) (F i).env = (false, eval e (F i).env) :: starEach es (F i).env := by intro _; rfl) (pl : ∀ i, (backTo pos (starEach es (F i).env)).any (·.1) = false := by intro _; rfl) :
    Ev F W K (.Call (.Name x q) (e :: es) [] pos) env fun s => ∃ r, s = .dat r ∧ Rn ds r :=
  ev_call fm o hj ha (fun rs h vs H i sd Q E q => by
    subst h
    match vs, sd with
    | v :: us, ⟨hv, sd⟩ =>
      cases (show some v = some (V.ref p) from hv)
      exact ⟨W, p, c, ns, us, ds, rfl, dw, i, dn_of_sd sd, hr, fun r v H' hrn x i' dn => q v H' _ (fun a o n h => x a o (fun z => n (z ▸ dw.mp)) h) i' dn.dv ⟨r, rfl, hrn⟩⟩) hg hdb st pl
/-- a def that draws, by its body -/
theorem fn_draw {x qual : Str} {st : Stmt} {f : Addr} {fd : FuncData} {ps : List Str} {Pre : List PyData → Prop} {Rn : List PyData → PyData → Prop} (Fu : Fun K x qual st f fd) (S : FnScope N ps (defScope st)) (len : ∀ ds, Pre ds → ds.length + 1 = ps.length)
    (body : ∀ (cdv : Value) (A : Around) (fr : List Env) (s : Shared) (H : Hp) (E : XK) (W : Wd) (p c : Addr) (ns : List Int) (ds : List PyData), Fam P w K mg base N k (defScope st) (DF P w K mg base N qual (defScope st) f cdv A fr s H E) → Draws W p c ns → Pre ds →
      Bd (DF P w K mg base N qual (defScope st) f cdv A fr s H E) W K (defBody st) (startE N (.raw (.ref p) :: ds.map .dat)) { nx := fun _ => Rn ds .none, rt := fun z => ∃ r, z = .dat r ∧ Rn ds r }) : FnG P w K mg base (k + 1) f fd ps (spD K Pre Rn) := by
  refine fn_body Fu S (fun vs H Q E ⟨W, p, c, ns, us, ds, e, _, _, dn, hr, _⟩ => by rw [e, List.length_cons, dn.length]; exact len ds hr) fun vs H Q E ⟨W, p, c, ns, us, ds, e, dw, i, dn, hr, q⟩ => ?_
  subst e
  -- what may change besides the pot stands still
  let W1 : Wd := ⟨W.M, fun H' => W.I H' ∧ ∀ a, W.M a → a ≠ p → H' a = H a, fun H' a i m => W.has H' a i.1 m, fun H1 H2 i x => ⟨W.loc H1 H2 i.1 x, fun a m n => (x a m).trans (i.2 a m n)⟩⟩
  have d1 : Draws W1 p c ns := ⟨dw.mp, dw.mc, fun H i => dw.pot H i.1, fun H1 H2 i x pq => ⟨dw.step H1 H2 i.1 x pq, fun a m n => (x a m n).trans (i.2 a m n)⟩⟩
  have keep : ∀ H', Wx W1 H H' → W1.I H' → ∀ a o, a ≠ p → H a = some o → H' a = some o := fun H' x i' a o n h => by
    by_cases m : W.M a
    · rw [i'.2 a m n]; exact h
    · exact x a o m h
  refine ⟨W1, .raw (.ref p) :: ds.map .dat, _, ⟨i, fun _ _ _ => rfl⟩, ⟨rfl, sd_of_dn (DnAll.to (W := W) (W' := W1) (fun _ _ m => m) dn)⟩, fun cdv A fr s fm => body cdv A fr s H E W1 p c ns ds fm d1 hr, fun env H' xx ii e => ?_, fun v H' r' xx ii dv e => ?_, fun _ z => z, fun _ z => z⟩
  · exact q .none .non H' e (keep H' xx ii) ii.1 .non
  · obtain ⟨r, rfl, h⟩ := e
    obtain ⟨u, z, d⟩ := dv
    cases z
    exact q r v H' h (keep H' xx ii) ii.1 (Dn.to (W := W1) (W' := W) (fun _ _ m => m) d)
end
end Cr

set_option Elab.async false
set_option linter.all false
set_option maxRecDepth 100000
set_option maxHeartbeats 4000000
namespace Cr
open PySem PySem.Spec PyProof.Rows L2

/-! ## data that == and repr take -/
structure Nice (d : PyData) (n : Nat) : Prop where
  lay : d.canLay0 = true
  nd : noDict d = true
  dp : d.depth ≤ n
structure NiceAll (ds : List PyData) (n : Nat) : Prop where
  lay : PyData.canLayAll0 ds = true
  nd : noDictAll ds = true
  dp : PyData.depthAll ds ≤ n
theorem Nice.none {n : Nat} : Nice .none n := ⟨by simp only [PyData.canLay0], by simp only [noDict], by simp only [PyData.depth]; omega⟩
theorem Nice.bool {b : Bool} {n : Nat} : Nice (.bool b) n := ⟨by simp only [PyData.canLay0], by simp only [noDict], by simp only [PyData.depth]; omega⟩
theorem Nice.int {i : Int} {n : Nat} : Nice (.int i) n := ⟨by simp only [PyData.canLay0], by simp only [noDict], by simp only [PyData.depth]; omega⟩
theorem Nice.str {x : Str} {n : Nat} (h : PySem.PyData.strOk x = true) : Nice (.str x) n := ⟨by simp only [PyData.canLay0]; exact h, by simp only [noDict], by simp only [PyData.depth]; omega⟩
theorem NiceAll.nil {n : Nat} : NiceAll [] n := ⟨by simp only [PyData.canLayAll0], by simp only [noDictAll], by simp only [PyData.depthAll]; omega⟩
theorem NiceAll.cons {d : PyData} {ds : List PyData} {n : Nat} (h : Nice d n) (t : NiceAll ds n) : NiceAll (d :: ds) n :=
  ⟨by simp only [PyData.canLayAll0, h.lay, t.lay, Bool.and_self], by simp only [noDictAll, h.nd, t.nd, Bool.and_self], by simp only [PyData.depthAll]; exact Nat.max_le.mpr ⟨h.dp, t.dp⟩⟩
theorem Nice.list {ds : List PyData} {n : Nat} (h : NiceAll ds n) : Nice (.list ds) (n + 1) := ⟨by simp only [PyData.canLay0]; exact h.lay, by simp only [noDict]; exact h.nd, by simp only [PyData.depth]; exact Nat.succ_le_succ h.dp⟩
theorem Nice.tuple {ds : List PyData} {n : Nat} (h : NiceAll ds n) : Nice (.tuple ds) (n + 1) := ⟨by simp only [PyData.canLay0]; exact h.lay, by simp only [noDict]; exact h.nd, by simp only [PyData.depth]; exact Nat.succ_le_succ h.dp⟩
theorem NiceAll.of {n : Nat} : ∀ {ds : List PyData}, (∀ d ∈ ds, Nice d n) → NiceAll ds n
  | [], _ => .nil
  | d :: ds, h => .cons (h d List.mem_cons_self) (NiceAll.of fun e m => h e (List.mem_cons_of_mem _ m))
theorem Nice.up {d : PyData} {n m : Nat} (h : Nice d n) (l : n ≤ m) : Nice d m := ⟨h.lay, h.nd, Nat.le_trans h.dp l⟩
theorem Nice.shaped {d : PyData} {n : Nat} (h : Nice d n) (l : n ≤ 64 := by decide) : SeqAt.shaped d = true := by
  unfold SeqAt.shaped
  rw [h.lay, decide_eq_true (Nat.le_trans h.dp l)] <;> rfl

section
variable {ι : Type} {F : ι → Cx} {P : Program} {w : World} {K : PySem.W.Frag} {mg : Str → Option Value} {base : Heap} {N : List Str} {k : Nat} {sc : Scope} {W : Wd} {env : List Sl}
theorem n_eq (fm : Fam P w K mg base N k sc F) {x y : PyData} (hx : Nice x 20) (hy : Nice y 20) : B1 F W K (compareOp .Eq) x y (.bool (PyData.eqv x y)) := b_eq fm hx.shaped hy.shaped hx.nd hy.nd
theorem n_ne (fm : Fam P w K mg base N k sc F) {x y : PyData} (hx : Nice x 20) (hy : Nice y 20) : B1 F W K (compareOp .NotEq) x y (.bool (!PyData.eqv x y)) := b_ne fm hx.shaped hy.shaped hx.nd hy.nd
theorem sc_cmp {f : Value → Value → Sem Value} {g : V → V → Bool} {x y : PyData} {vx vy : V} {c : Bool} (h : ∀ z, OpR (F z) f fun x y H Q => scal x y = true ∧ Q (.bl (g x y)) H) (dx : ∀ H v, Dn W K H v x → v = vx) (dy : ∀ H v, Dn W K H v y → v = vy) (hs : scal vx vy = true) (hg : g vx vy = c) : B1 F W K f x y (.bool c) := by
  intro H ux uy ii nx ny Q q
  rw [dx H ux nx, dy H uy ny]
  exact ⟨_, h, hs, by rw [hg]; exact q _ H _ (Wx.refl W H) ii (Dn.dv (.bl _)) rfl⟩
theorem d_int {H : Hp} {v : V} {i : Int} (h : Dn W K H v (.int i)) : v = .int i := by cases h; rfl
theorem d_str {H : Hp} {v : V} {i : Str} (h : Dn W K H v (.str i)) : v = .str i := by cases h; rfl
theorem d_non {H : Hp} {v : V} (h : Dn W K H v .none) : v = .non := by cases h; rfl
theorem d_bl {H : Hp} {v : V} {b : Bool} (h : Dn W K H v (.bool b)) : v = .bl b := by cases h; rfl
theorem b_eqI {i j : Int} : B1 F W K (compareOp .Eq) (.int i) (.int j) (.bool (decide (i = j))) := sc_cmp (fun _ => op_eq) (fun _ _ => d_int) (fun _ _ => d_int) rfl (by rw [dec_int, Bool.beq_eq_decide_eq])
theorem b_eqS {i j : Str} : B1 F W K (compareOp .Eq) (.str i) (.str j) (.bool (decide (i = j))) := sc_cmp (fun _ => op_eq) (fun _ _ => d_str) (fun _ _ => d_str) rfl (by rw [dec_str, Bool.beq_eq_decide_eq])
theorem b_neI {i j : Int} : B1 F W K (compareOp .NotEq) (.int i) (.int j) (.bool (!decide (i = j))) := sc_cmp (g := fun x y => !decide (x = y)) (fun _ => op_ne) (fun _ _ => d_int) (fun _ _ => d_int) rfl (by rw [dec_int, Bool.beq_eq_decide_eq])
theorem b_neS {i j : Str} : B1 F W K (compareOp .NotEq) (.str i) (.str j) (.bool (!decide (i = j))) := sc_cmp (g := fun x y => !decide (x = y)) (fun _ => op_ne) (fun _ _ => d_str) (fun _ _ => d_str) rfl (by rw [dec_str, Bool.beq_eq_decide_eq])

/-! ### comprehensions over a range -/
theorem lc_turnsR {elt : Expr} {ifs : List Expr} {scope : Scope} {j n : Nat} {D : Addr} {H1 : Hp} {σ : L2.St} {f : Nat → Bool} {R : Nat → PyData → Prop} {Q : VK} (i1 : W.I H1) (sd : Sd W K H1 σ env) (hD : H1 D = none) (hz : n ≤ sizeLine)
    (ht : ∀ i D acc, i < n → ¬ W.M D → EvIf (FB F scope) (W.plus D (.lst acc)) K ifs ((env.set j .any).set j (.dat (.int (i : Int)))) (f i))
    (he : ∀ i D acc, i < n → f i = true → ¬ W.M D → Ev (FB F scope) (W.plus D (.lst acc)) K elt ((env.set j .any).set j (.dat (.int (i : Int)))) fun s => ∃ e, s = .dat e ∧ R i e)
    (q : ∀ H' es, Wx W H1 H' → W.I H' → Dn W K H' (.ref D) (.list es) → Paired (fun i e => R i e) ((List.range n).filter f) es → Q (.ref D) H') :
    ∃ Wl : Nat → Nat → Hp → Prop, (∃ m, Wl 0 m (upd H1 D (.lst []))) ∧ ∀ i m H, Wl i m H →
      ((Itr 0 n).stop i H ∧ Q (.ref D) H) ∨ ((Itr 0 n).go i H ∧ ∃ Nx : Hp → Prop, (∀ H', Nx H' → ∃ m', m' < m ∧ Wl (i + 1) m' H') ∧ ∀ x H', (Itr 0 n).yld i H x H' → gName j x (L2.wipe σ [j]) H' fun σ2 H2 => L2.wipe σ2 [j] = L2.wipe σ [j] ∧ WTs (FB F scope) ifs σ2 H2 fun b H3 =>
        if b = true then WE (FB F scope) elt σ2 H3 fun y H4 => ∃ acc, H4 D = some (.lst acc) ∧ acc.length < sizeLine ∧ Nx (upd H4 D (.lst (acc ++ [y]))) else Nx H3) := by
  have nD : ¬ W.M D := fun m => W.has H1 D i1 m hD
  refine lc_range (lo := 0) (n := n) (fun i H' => ∃ acc es, (W.plus D (.lst acc)).I H' ∧ Wx (W.plus D (.lst acc)) H1 H' ∧ DnAll (W.plus D (.lst acc)) K H' acc es ∧ Paired (fun i e => R i e) ((List.range i).filter f) es) ?_ ?_ ?_
  · exact ⟨[], [], ⟨W.mono _ _ i1 (Xt.new hD), upd_same⟩, fun p o _ h => Xt.new hD p o h, .nil, .nil⟩
  · intro i H' hi ⟨acc, es, ii, xx, dn, pr⟩
    have e0 : (0 : Int) + (i : Int) = (i : Int) := by omega
    rw [e0]
    have to1 : ∀ b, H1 b ≠ none → (W.plus D (.lst acc)).M b → W.M b := plus_of hD
    have sd' : Sd (W.plus D (.lst acc)) K H' ((L2.wipe σ [j]).set j (some (.int (i : Int)))) ((env.set j .any).set j (.dat (.int (i : Int)))) := Sd.set (Dn.dv (.int _)) j (((sd.to to1).wipe [j]).mono xx)
    refine ⟨wipe_set j, ?_⟩
    refine ht i D acc hi nD _ H' ii sd' _ fun H3 x3 i3 => ?_
    have lt : acc.length ≤ i := by
      have l1 := dn.length
      have l2 := Paired.length pr
      have l3 := List.length_filter_le f (List.range i)
      rw [List.length_range] at l3
      omega
    cases hf : f i with
    | true =>
      refine he i D acc hi hf nD _ H3 i3 (sd'.mono x3) _ fun y H4 r x4 i4 d4 h4 => ?_
      obtain ⟨e, rfl, hR⟩ := h4
      obtain ⟨u, z, dy⟩ := d4
      cases z
      have up : Wx (W.plus D (.lst acc)) H4 (upd H4 D (.lst (acc ++ [y]))) := fun p o n h => by
        rw [upd_ne fun z => n (Or.inr z)]
        exact h
      refine ⟨acc, i4.2, by omega, acc ++ [y], es ++ [e], ⟨W.loc _ _ i4.1 fun b m => upd_ne fun z => nD (z ▸ m), upd_same⟩, ?_, ?_, ?_⟩
      · intro p o n h
        exact up p o n (x4 p o n (x3 p o n (xx p o n h)))
      · refine DnAll.to (W := W.plus D (.lst acc)) (W' := W.plus D (.lst (acc ++ [y]))) (fun _ _ m => m) (DnAll.mono up ?_)
        exact ((dn.mono x3).mono x4).append (.cons dy .nil)
      · rw [List.range_succ, List.filter_append, List.filter_cons, if_pos hf]
        exact paired_app pr (.cons hR .nil)
    | false =>
      refine ⟨acc, es, i3, fun p o n h => x3 p o n (xx p o n h), dn.mono x3, ?_⟩
      rw [List.range_succ, List.filter_append, List.filter_cons, if_neg (by rw [hf]; exact Bool.false_ne_true)]
      show Paired _ (_ ++ []) es
      rw [List.append_nil]
      exact pr
  · intro H' ⟨acc, es, ii, xx, dn, pr⟩
    refine q H' es (fun p o n h => xx p o (fun m => m.elim n fun z => ?_) h) ii.1 ?_ pr
    · rw [z, hD] at h
      exact nomatch h
    · exact .lst ⟨nD, ii.2⟩ (DnAll.to (W := W.plus D (.lst acc)) (W' := W) (fun _ _ m => Or.inl m) dn)
theorem lc_readR {elt a : Expr} {ifs : List Expr} {scope : Scope} {j n : Nat} {f : Nat → Bool} {R : Nat → PyData → Prop} (hi : A1 F W K [a] env [.int (n : Int)]) (hz : n ≤ 1000000)
    (ht : ∀ i D acc, i < n → ¬ W.M D → EvIf (FB F scope) (W.plus D (.lst acc)) K ifs ((env.set j .any).set j (.dat (.int (i : Int)))) (f i))
    (he : ∀ i D acc, i < n → f i = true → ¬ W.M D → Ev (FB F scope) (W.plus D (.lst acc)) K elt ((env.set j .any).set j (.dat (.int (i : Int)))) fun s => ∃ e, s = .dat e ∧ R i e)
    (σ : L2.St) (H : Hp) (ii : W.I H) (sd : Sd W K H σ env) (Q : VK) (q : ∀ v H' es, Wx W H H' → W.I H' → Dn W K H' v (.list es) → Paired (fun i e => R i e) ((List.range n).filter f) es → Q v H') :
    tLc (iRng1 (WA F [a])) (gName j) (WTs (FB F scope) ifs) (WE (FB F scope) elt) [j] σ H Q := by
  refine hi σ H ii sd _ fun vs H1 r x1 i1 d1 h1 => ?_
  subst h1
  match vs, d1 with
  | [v], ⟨⟨u, e, dn⟩, _⟩ =>
    cases e
    cases dn
    refine ⟨(n : Int), rfl, by omega, by omega, fun D hD => ?_⟩
    exact lc_turnsR (n := ((n : Int).toNat)) i1 (sd.mono x1) hD (sz_small (by omega)) ht he fun H' es x' i' dn pr => q _ H' es (x1.trans x') i' dn pr
theorem ev_lcR (fm : Fam P w K mg base N k sc F) {x : Str} {px p pc pos : Pos} {elt a : Expr} {ifs : List Expr} {scope : Scope} {n : Nat} {f : Nat → Bool} {R : Nat → PyData → Prop} (j : Nat) (hN : N[j]? = some x) (o : lcB N sc scope x j = true) (hi : A1 F W K [a] env [.int (n : Int)]) (hm : mg "range" = none)
    (ht : ∀ i D acc, i < n → ¬ W.M D → Fam P w K mg base N k (relS scope sc) (FB F scope) → EvIf (FB F scope) (W.plus D (.lst acc)) K ifs ((env.set j .any).set j (.dat (.int (i : Int)))) (f i))
    (he : ∀ i D acc, i < n → f i = true → ¬ W.M D → Fam P w K mg base N k (relS scope sc) (FB F scope) → Ev (FB F scope) (W.plus D (.lst acc)) K elt ((env.set j .any).set j (.dat (.int (i : Int)))) fun s => ∃ e, s = .dat e ∧ R i e)
    (hz : n ≤ 1000000) (hg : glB sc "range" = true := by decide +kernel) (st : ∀ i, starEach [a] (F i).env = [(false, eval a (F i).env)] := by intro _; rfl)
    (hf : ∀ i x, foldedSetIterable (.Call (.Name "range" p) [a] [] pc) (F i).env x = pure x := by intro _ _; rfl) :
    Ev F W K (.ListComp elt [⟨.Name x px, .Call (.Name "range" p) [a] [] pc, ifs, 0⟩] scope pos) env fun s => ∃ es, s = .dat (.list es) ∧ Paired (fun i e => R i e) ((List.range n).filter f) es := by
  intro σ H ii sd Q q
  refine ⟨_, fun z => ?_, lc_readR hi hz (fun i D acc a b => ht i D acc a b (fm.blk scope (lc_kind o))) (fun i D acc a b c => he i D acc a b c (fm.blk scope (lc_kind o))) σ H ii sd Q fun v H' es x' i' dn pr => q v H' _ x' i' dn.dv ⟨es, rfl, pr⟩⟩
  exact pe_lc (own := [(x, j)]) (fm.ca z) (by rw [fm.nn z]; exact fm.nd) (pi_range1 (gl_of (fm.es z) hg) (by rw [fm.mg z]; exact hm) (wa_pa z) (st z)) (lc_ok fm o z) (fun s H C cl fp => lc_gName fm o hN z s H C cl fp) (fun s H C cl fp => wts_pts (F := FB F scope) (z, s, H, C, cl, fp)) (fun s H C cl fp => we_pe (F := FB F scope) (z, s, H, C, cl, fp)) (hf z)
theorem bd_lcR (fm : Fam P w K mg base N k sc F) {x y : Str} {px py p pc pos spos : Pos} {elt a : Expr} {ifs : List Expr} {scope : Scope} {f : Nat → Bool} {R : Nat → PyData → Prop} {rest : List Stmt} {Po : Post} {n : Nat} (l j : Nat) (hY : N[l]? = some y) (hN : N[j]? = some x) (o : lcB N sc scope x j = true) (hi : A1 F W K [a] env [.int (n : Int)]) (hm : mg "range" = none)
    (ht : ∀ i D acc, i < n → ¬ W.M D → Fam P w K mg base N k (relS scope sc) (FB F scope) → EvIf (FB F scope) (W.plus D (.lst acc)) K ifs ((env.set j .any).set j (.dat (.int (i : Int)))) (f i))
    (he : ∀ i D acc, i < n → f i = true → ¬ W.M D → Fam P w K mg base N k (relS scope sc) (FB F scope) → Ev (FB F scope) (W.plus D (.lst acc)) K elt ((env.set j .any).set j (.dat (.int (i : Int)))) fun s => ∃ e, s = .dat e ∧ R i e)
    (hz : n ≤ 1000000) (hr : ∀ es, Paired (fun i e => R i e) ((List.range n).filter f) es → Bd F W K rest (env.set l (.dat (.list es))) Po) (hg : glB sc "range" = true := by decide +kernel) (st : ∀ i, starEach [a] (F i).env = [(false, eval a (F i).env)] := by intro _; rfl)
    (hl : lclB sc y = true := by decide +kernel) (sl : (py.line == pos.line) = true := by rfl) (sa : (scope.names.any fun (n, k) => n == y && (k == .local || k == .cell)) = false := by decide +kernel)
    (hf : ∀ i x, foldedSetIterable (.Call (.Name "range" p) [a] [] pc) (F i).env x = pure x := by intro _ _; rfl) : Bd F W K (.Assign [.Name y py] (.ListComp elt [⟨.Name x px, .Call (.Name "range" p) [a] [] pc, ifs, 0⟩] scope pos) spos :: rest) env Po := by
  intro σ H D ii sd g
  refine ⟨tSeq (tAsg (tLc (iRng1 (WA F [a])) (gName j) (WTs (FB F scope) ifs) (WE (FB F scope) elt) [j]) (gName l)) (WS F rest), fun z => ?_, lc_readR hi hz (fun i D acc a b => ht i D acc a b (fm.blk scope (lc_kind o))) (fun i D acc a b c => he i D acc a b c (fm.blk scope (lc_kind o))) σ H ii sd (fun v H1 => gName l v σ H1 (WS F rest D)) fun v H' es x' i' dn pr => hr es pr _ _ _ i' (Sd.set dn.dv l (sd.mono x')) (g.mono x')⟩
  exact pss_cons (ps_setLc (own := [(x, j)]) (fm.ca z) (by rw [fm.nn z]; exact fm.nd) (by rw [fm.nn z]; exact hY) (lcl_of (fm.es z) hl) (sw_true (by rw [fm.es z]; exact fm.kd) (lcl_of (fm.es z) hl) sl sa) (pi_range1 (gl_of (fm.es z) hg) (by rw [fm.mg z]; exact hm) (wa_pa z) (st z)) (lc_ok fm o z) (fun s H C cl fp => lc_gName fm o hN z s H C cl fp) (fun s H C cl fp => wts_pts (F := FB F scope) (z, s, H, C, cl, fp)) (fun s H C cl fp => we_pe (F := FB F scope) (z, s, H, C, cl, fp)) (hf z)) (ws_ps z)
end
end Cr

set_option Elab.async false
set_option linter.all false
set_option maxRecDepth 100000
set_option maxHeartbeats 4000000
namespace Cr
open PySem PySem.Spec PyProof.Rows L2
section
variable {ι : Type} {F : ι → Cx} {P : Program} {w : World} {K : PySem.W.Frag} {mg : Str → Option Value} {base : Heap} {N : List Str} {k : Nat} {sc : Scope} {W : Wd} {env : List Sl}

/-! ## the pot itself, by its places -/
theorem ev_pot0 (fm : Fam P w K mg base N k sc F) {a b : Expr} {pos : Pos} {p c : Addr} {ns : List Int} (dw : Draws W p c ns) (ha : E1 F W K a env (.raw (.ref p))) (hb : E1 F W K b env (.dat (.int 0))) (hs : PlainIx b := by exact fun _ _ => rfl) : E1 F W K (.Subscript a b pos) env (.raw (.ref c)) := by
  intro σ H i sd Q q
  refine ⟨tOp (rIxL K) (WE F a) (WE F b), fun z => pe_ix (by have := ix_list (X := F z); rwa [fm.kk z] at this) (we_pe z) (we_pe z) hs, ?_⟩
  refine ha σ H i sd _ fun v1 H1 r1 x1 i1 d1 h1 => ?_
  refine hb σ H1 i1 (sd.mono x1) _ fun v2 H2 r2 x2 i2 d2 h2 => ?_
  subst h1 h2
  cases (show some v1 = some (V.ref p) from d1)
  obtain ⟨u2, z2, n2⟩ := d2
  cases z2
  cases n2
  obtain ⟨_, ⟨i', x, y, e⟩, _⟩ := dw.pot H2 i2
  exact ⟨p, _, 0, .ref c, rfl, rfl, SqL.of e, rfl, q _ H2 _ (x1.trans x2) i2 raw_dv rfl⟩
theorem ev_potI (fm : Fam P w K mg base N k sc F) {a b : Expr} {pos : Pos} {p c : Addr} {ns : List Int} {j : Int} (dw : Draws W p c ns) (hj : j = 1 ∨ j = 2 ∨ j = 3) (ha : E1 F W K a env (.raw (.ref p))) (hb : E1 F W K b env (.dat (.int j))) (hs : PlainIx b := by exact fun _ _ => rfl) : Ev F W K (.Subscript a b pos) env fun s => ∃ n, s = .dat (.int n) := by
  intro σ H i sd Q q
  refine ⟨tOp (rIxL K) (WE F a) (WE F b), fun z => pe_ix (by have := ix_list (X := F z); rwa [fm.kk z] at this) (we_pe z) (we_pe z) hs, ?_⟩
  refine ha σ H i sd _ fun v1 H1 r1 x1 i1 d1 h1 => ?_
  refine hb σ H1 i1 (sd.mono x1) _ fun v2 H2 r2 x2 i2 d2 h2 => ?_
  subst h1 h2
  cases (show some v1 = some (V.ref p) from d1)
  obtain ⟨u2, z2, n2⟩ := d2
  cases z2
  cases n2
  obtain ⟨_, ⟨i', x, y, e⟩, _⟩ := dw.pot H2 i2
  rcases hj with rfl | rfl | rfl
  · exact ⟨p, _, 1, .int i', rfl, rfl, SqL.of e, rfl, q _ H2 _ (x1.trans x2) i2 (Dn.dv (.int _)) ⟨_, rfl⟩⟩
  · exact ⟨p, _, 2, .int x, rfl, rfl, SqL.of e, rfl, q _ H2 _ (x1.trans x2) i2 (Dn.dv (.int _)) ⟨_, rfl⟩⟩
  · exact ⟨p, _, 3, .int y, rfl, rfl, SqL.of e, rfl, q _ H2 _ (x1.trans x2) i2 (Dn.dv (.int _)) ⟨_, rfl⟩⟩
theorem ev_cellLen (fm : Fam P w K mg base N k sc F) {a : Expr} {p pos : Pos} {pp c : Addr} {ns : List Int} (dw : Draws W pp c ns) (ha : E1 F W K a env (.raw (.ref c))) (hm : mg "len" = none) (hg : glB sc "len" = true := by decide +kernel)
    (st : ∀ i, starEach [a] (F i).env = (false, eval a (F i).env) :: starEach [] (F i).env := by intro _; rfl) (pl : ∀ i, (backTo pos (starEach [] (F i).env)).any (·.1) = false := by intro _; rfl) : E1 F W K (.Call (.Name "len" p) [a] [] pos) env (.dat (.int (ns.length : Int))) := by
  intro σ H i sd Q q
  refine ⟨tCB (rLn K) (tCons (WE F a) tNil), fun z => pe_callB (call_ln fm z) (gl_of (fm.es z) hg) (by rw [fm.mg z]; exact hm) PySem.boot_len (pa_cons (we_pe z) pa_nil (st z)) (by decide) (by decide) (st z) (pl z), ?_⟩
  refine ha σ H i sd _ fun v1 H1 r1 x1 i1 d1 h1 => ?_
  subst h1
  cases (show some v1 = some (V.ref c) from d1)
  have e := (dw.pot H1 i1).2.2
  refine ⟨c, _, rfl, Or.inl (SqL.of e), ?_⟩
  rw [List.length_map]
  exact q _ H1 _ x1 i1 (Dn.dv (.int _)) rfl
theorem ev_cellIx (fm : Fam P w K mg base N k sc F) {a b : Expr} {pos : Pos} {p c : Addr} {ns : List Int} {R : Sl → Prop} (dw : Draws W p c ns) (ha : E1 F W K a env (.raw (.ref c))) (hb : Ev F W K b env R) (hR : ∀ r, R r → ∃ j : Nat, r = .dat (.int (j : Int)) ∧ j < ns.length) (hs : PlainIx b := by exact fun _ _ => rfl) :
    Ev F W K (.Subscript a b pos) env fun s => ∃ n, s = .dat (.int n) := by
  intro σ H i sd Q q
  refine ⟨tOp (rIxL K) (WE F a) (WE F b), fun z => pe_ix (by have := ix_list (X := F z); rwa [fm.kk z] at this) (we_pe z) (we_pe z) hs, ?_⟩
  refine ha σ H i sd _ fun v1 H1 r1 x1 i1 d1 h1 => ?_
  refine hb σ H1 i1 (sd.mono x1) _ fun v2 H2 r2 x2 i2 d2 h2 => ?_
  subst h1
  cases (show some v1 = some (V.ref c) from d1)
  obtain ⟨j, rfl, hj⟩ := hR r2 h2
  obtain ⟨u2, z2, n2⟩ := d2
  cases z2
  cases n2
  have e := (dw.pot H2 i2).2.2
  have at1 : (ns.map V.int)[j]? = some (.int ns[j]) := by rw [List.getElem?_map, List.getElem?_eq_getElem hj] <;> rfl
  exact ⟨c, _, (j : Int), .int ns[j], rfl, rfl, SqL.of e, atI_nat at1, q _ H2 _ (x1.trans x2) i2 (Dn.dv (.int _)) ⟨_, rfl⟩⟩
theorem dp_ints {H : Hp} : ∀ ns : List Int, DpAll K H (ns.map V.int) (ns.map PyData.int)
  | [] => .nil
  | n :: ns => .cons (.int n) (dp_ints ns)
theorem nice_ints {m : Nat} : ∀ ns : List Int, NiceAll (ns.map PyData.int) m
  | [] => .nil
  | _ :: ns => .cons .int (nice_ints ns)
/-- cells != [] -/
theorem et_cells (fm : Fam P w K mg base N k sc F) {a : Expr} {pos p2 : Pos} {p c : Addr} {ns : List Int} (dw : Draws W p c ns) (ha : E1 F W K a env (.raw (.ref c))) : T1 F W K (.Compare a [.NotEq] [.List [] p2] pos) env (!ns.isEmpty) := by
  intro σ H i sd Q q
  refine ⟨tTest (tOp (rNeD K) (WE F a) (tLst tNil)), fun z => pt_cmpR (by have := op_neD (fm.ro z).units; rwa [fm.kk z] at this) (we_pe z) (pe_lst pa_nil) (nomark _), ?_⟩
  refine ha σ H i sd _ fun v1 H1 r1 x1 i1 d1 h1 => ?_
  subst h1
  cases (show some v1 = some (V.ref c) from d1)
  refine ⟨Nat.zero_le _, fun l hl => ?_⟩
  obtain ⟨n, x2, i2⟩ := W.new (o := .lst []) i1 hl
  have e := (dw.pot _ i2).2.2
  refine ⟨.list (ns.map PyData.int), .list [], .lst (SqL.of e) (dp_ints ns), .lst (SqL.of upd_same) .nil, (Nice.list (n := 3) (nice_ints ns)).shaped, (Nice.list (n := 3) .nil).shaped, ?_⟩
  refine ⟨_, rfl, q _ _ (x1.trans x2) i2 ?_⟩
  cases ns with
  | nil => simp only [List.map_nil, PyData.eqv, PyData.eqvAll]; rfl
  | cons _ _ => simp only [List.map_cons, PyData.eqv, PyData.eqvAll]; rfl
/-- pot[j] = an int -/
theorem bd_setPot (fm : Fam P w K mg base N k sc F) {a b e : Expr} {pos p2 : Pos} {rest : List Stmt} {Po : Post} {R : Sl → Prop} {p c : Addr} {ns : List Int} {j : Int} (dw : Draws W p c ns) (hj : j = 1 ∨ j = 2 ∨ j = 3) (he : Ev F W K e env R) (hR : ∀ r, R r → ∃ n, r = .dat (.int n)) (ha : E1 F W K a env (.raw (.ref p))) (hb : E1 F W K b env (.dat (.int j))) (hr : Bd F W K rest env Po)
    (h1 : ∀ i, swapsWithSole [.Subscript a b p2] e pos.line (F i).env = pure false := by intro _; rfl) (h2 : ∀ i, swappedStores [.Subscript a b p2] e (F i).env = pure none := by intro _; rfl) (h3 : ∀ i, (assignEach [.Subscript a b p2] (F i).env).map (·.2) = [assign (.Subscript a b p2) (F i).env] := by intro _; rfl)
    (h4 : ∀ i, ∀ v, assign (.Subscript a b p2) (F i).env v = (do
      let ov ← holding [v] (eval a (F i).env)
      let iv ← holding [v, ov] (eval b (F i).env)
      standAt p2
      holding [v, ov, iv] (setItem ov iv v)
      release [v, ov, iv] []) := by intro _ _; rfl) : Bd F W K (.Assign [.Subscript a b p2] e pos :: rest) env Po := by
  intro σ H D ii sd g
  refine ⟨tSeq (tAsg (WE F e) (gSub (WE F a) (WE F b) rSetL)) (WS F rest), fun z => pss_cons (ps_asg (we_pe z) (pg_sub (we_pe z) (we_pe z) set_list (h4 z)) (h1 z) (h2 z) (h3 z)) (ws_ps z), ?_⟩
  refine he σ H ii sd _ fun v0 H0 r0 x0 i0 d0 hr0 => ?_
  obtain ⟨n, rfl⟩ := hR r0 hr0
  obtain ⟨u0, z0, n0⟩ := d0
  cases z0
  cases n0
  refine ha σ H0 i0 (sd.mono x0) _ fun v1 H1 r1 x1 i1 d1 e1 => ?_
  refine hb σ H1 i1 (sd.mono (x0.trans x1)) _ fun v2 H2 r2 x2 i2 d2 e2 => ?_
  subst e1 e2
  cases (show some v1 = some (V.ref p) from d1)
  obtain ⟨u2, z2, n2⟩ := d2
  cases z2
  cases n2
  obtain ⟨ne, ⟨i', x, y, e⟩, ec⟩ := dw.pot H2 i2
  have fin : ∀ i' x y : Int, WS F rest D σ (upd H2 p (.lst [.ref c, .int i', .int x, .int y])) := fun i' x y => by
    have xx : Wx W H2 (upd H2 p (.lst [.ref c, .int i', .int x, .int y])) := fun b o nb hb' => by
      rw [upd_ne (show b ≠ p from fun z => nb (by rw [z]; exact dw.mp))]
      exact hb'
    have all := ((x0.trans x1).trans x2).trans xx
    exact hr σ _ D (dw.step H2 _ i2 (fun b _ nb => upd_ne nb) ⟨ne, ⟨i', x, y, upd_same⟩, by rw [upd_ne (Ne.symm ne)]; exact ec⟩) (sd.mono all) (g.mono all)
  rcases hj with rfl | rfl | rfl
  · exact ⟨p, _, 1, 1, rfl, rfl, e, rfl, fin n x y⟩
  · exact ⟨p, _, 2, 2, rfl, rfl, e, rfl, fin i' n y⟩
  · exact ⟨p, _, 3, 3, rfl, rfl, e, rfl, fin i' x n⟩

/-! ## built-ins by their names -/
theorem e_abs (fm : Fam P w K mg base N k sc F) {e : Expr} {p pos : Pos} {n : Int} (ha : A1 F W K [e] env [.int n]) (hm : mg "abs" = none) (hg : glB sc "abs" = true := by decide +kernel)
    (st : ∀ i, starEach [e] (F i).env = (false, eval e (F i).env) :: starEach [] (F i).env := by intro _; rfl) (pl : ∀ i, (backTo pos (starEach [] (F i).env)).any (·.1) = false := by intro _; rfl) : E1 F W K (.Call (.Name "abs" p) [e] [] pos) env (.dat (.int (if n < 0 then -n else n))) :=
  ev_callB (id := "abs") fm ha hm c_abs (by decide +kernel) hg (by decide) (by decide) st pl
theorem e_int (fm : Fam P w K mg base N k sc F) {e : Expr} {p pos : Pos} {n : Int} (ha : A1 F W K [e] env [.int n]) (hm : mg "int" = none) (hg : glB sc "int" = true := by decide +kernel)
    (st : ∀ i, starEach [e] (F i).env = (false, eval e (F i).env) :: starEach [] (F i).env := by intro _; rfl) (pl : ∀ i, (backTo pos (starEach [] (F i).env)).any (·.1) = false := by intro _; rfl) : E1 F W K (.Call (.Name "int" p) [e] [] pos) env (.dat (.int n)) :=
  ev_callTy (id := "int") fm ha hm c_int (by decide +kernel) hg (by decide) (by decide) st pl
theorem e_intB (fm : Fam P w K mg base N k sc F) {e : Expr} {p pos : Pos} {b : Bool} (ha : A1 F W K [e] env [.bool b]) (hm : mg "int" = none) (hg : glB sc "int" = true := by decide +kernel)
    (st : ∀ i, starEach [e] (F i).env = (false, eval e (F i).env) :: starEach [] (F i).env := by intro _; rfl) (pl : ∀ i, (backTo pos (starEach [] (F i).env)).any (·.1) = false := by intro _; rfl) : E1 F W K (.Call (.Name "int" p) [e] [] pos) env (.dat (.int (if b then 1 else 0))) :=
  ev_callTy (id := "int") fm ha hm c_intB (by decide +kernel) hg (by decide) (by decide) st pl
theorem e_max (fm : Fam P w K mg base N k sc F) {e e2 : Expr} {p pos : Pos} {n m : Int} (ha : A1 F W K [e, e2] env [.int n, .int m]) (hm : mg "max" = none) (hg : glB sc "max" = true := by decide +kernel)
    (st : ∀ i, starEach [e, e2] (F i).env = (false, eval e (F i).env) :: starEach [e2] (F i).env := by intro _; rfl) (pl : ∀ i, (backTo pos (starEach [e2] (F i).env)).any (·.1) = false := by intro _; rfl) : E1 F W K (.Call (.Name "max" p) [e, e2] [] pos) env (.dat (.int (if m > n then m else n))) :=
  ev_callB (id := "max") fm ha hm (c_max fm) (by decide +kernel) hg (by decide) (by decide) st pl
theorem e_min (fm : Fam P w K mg base N k sc F) {e e2 : Expr} {p pos : Pos} {n m : Int} (ha : A1 F W K [e, e2] env [.int n, .int m]) (hm : mg "min" = none) (hg : glB sc "min" = true := by decide +kernel)
    (st : ∀ i, starEach [e, e2] (F i).env = (false, eval e (F i).env) :: starEach [e2] (F i).env := by intro _; rfl) (pl : ∀ i, (backTo pos (starEach [e2] (F i).env)).any (·.1) = false := by intro _; rfl) : E1 F W K (.Call (.Name "min" p) [e, e2] [] pos) env (.dat (.int (if m < n then m else n))) :=
  ev_callB (id := "min") fm ha hm (c_min fm) (by decide +kernel) hg (by decide) (by decide) st pl
theorem e_lenL (fm : Fam P w K mg base N k sc F) {e : Expr} {p pos : Pos} {ds : List PyData} (ha : A1 F W K [e] env [.list ds]) (hm : mg "len" = none) (hg : glB sc "len" = true := by decide +kernel)
    (st : ∀ i, starEach [e] (F i).env = (false, eval e (F i).env) :: starEach [] (F i).env := by intro _; rfl) (pl : ∀ i, (backTo pos (starEach [] (F i).env)).any (·.1) = false := by intro _; rfl) : E1 F W K (.Call (.Name "len" p) [e] [] pos) env (.dat (.int (ds.length : Int))) :=
  ev_callB (id := "len") fm ha hm (c_lenL fm) (by decide +kernel) hg (by decide) (by decide) st pl
theorem e_lenT (fm : Fam P w K mg base N k sc F) {e : Expr} {p pos : Pos} {ds : List PyData} (ha : A1 F W K [e] env [.tuple ds]) (hm : mg "len" = none) (hg : glB sc "len" = true := by decide +kernel)
    (st : ∀ i, starEach [e] (F i).env = (false, eval e (F i).env) :: starEach [] (F i).env := by intro _; rfl) (pl : ∀ i, (backTo pos (starEach [] (F i).env)).any (·.1) = false := by intro _; rfl) : E1 F W K (.Call (.Name "len" p) [e] [] pos) env (.dat (.int (ds.length : Int))) :=
  ev_callB (id := "len") fm ha hm (c_lenT fm) (by decide +kernel) hg (by decide) (by decide) st pl
theorem e_repr (fm : Fam P w K mg base N k sc F) {e : Expr} {p pos : Pos} {d : PyData} (sh : Shows d) (ha : A1 F W K [e] env [d]) (hm : mg "repr" = none) (hg : glB sc "repr" = true := by decide +kernel)
    (st : ∀ i, starEach [e] (F i).env = (false, eval e (F i).env) :: starEach [] (F i).env := by intro _; rfl) (pl : ∀ i, (backTo pos (starEach [] (F i).env)).any (·.1) = false := by intro _; rfl) : E1 F W K (.Call (.Name "repr" p) [e] [] pos) env (.dat (.str d.shown)) :=
  ev_callB (id := "repr") fm ha hm (c_repr fm sh) (by decide +kernel) hg (by decide) (by decide) st pl

/-! ## what is not told exactly -/
theorem Bin.some {f : Value → Value → Sem Value} {x y z : PyData} {R : Sl → Prop} (h : B1 F W K f x y z) (hr : R (.dat z)) : Bin F W K f x y R := fun H vx vy i nx ny Q q => h H vx vy i nx ny Q fun v H' r x' i' d e => q v H' r x' i' d (by rw [e]; exact hr)
theorem Bin.tr {f : Value → Value → Sem Value} {x y : PyData} {c : Bool} {R : Bool → Prop} (h : B1 F W K f x y (.bool c)) (hr : R c) : Bin F W K f x y fun s => ∃ c, s = .dat (.bool c) ∧ R c := Bin.some h ⟨c, rfl, hr⟩
theorem bd_ifJ {c : Expr} {a b rest : List Stmt} {pos : Pos} {R : Bool → Prop} {Po : Post} (Iv : List Sl → Prop) (hc : EvT F W K c env R) (h1 : R true → Bd F W K a env { Po with nx := Iv }) (h2 : R false → Bd F W K b env { Po with nx := Iv }) (h3 : ∀ e, Iv e → Bd F W K rest e Po) : Bd F W K (.If c a b pos :: rest) env Po := by
  intro σ H D i sd g
  refine ⟨tSeq (tIfS (WT F c) (WS F a) (WS F b)) (WS F rest), fun z => pss_cons (ps_if (wt_pt z) (ws_ps z) (ws_ps z)) (ws_ps z), ?_⟩
  refine hc σ H i sd _ fun t H1 x1 i1 ht => ?_
  have gg : Good W K { Po with nx := Iv } { D with nx := WS F rest D } H1 :=
    ⟨fun σ' H' e y i' s' hb => h3 e hb σ' H' D i' s' (g.mono (x1.trans y)), (g.mono x1).rt, (g.mono x1).bk, (g.mono x1).ct⟩
  cases t with
  | true => exact h1 ht σ H1 _ i1 (sd.mono x1) gg
  | false => exact h2 ht σ H1 _ i1 (sd.mono x1) gg
theorem et_any {c : Expr} {R : Bool → Prop} (h : EvT F W K c env R) : EvT F W K c env fun _ => True := h.imp fun _ _ => trivial
/-- a call of a built-in whose arguments are not told exactly -/
theorem ev_callTyN (fm : Fam P w K mg base N k sc F) {x : Str} {id : String} {p pos : Pos} {e : Expr} {es : List Expr} {Ra : List Sl → Prop} {R : Sl → Prop} (ha : EvA F W K (e :: es) env Ra) (hm : mg x = none) (hc : ∀ rs, Ra rs → ∃ ds : List PyData, rs = ds.map .dat ∧ Cal F W K (.type id) ds R) (hv : bootBuiltins x = some (.type id) := by decide +kernel)
    (hg : glB sc x = true := by decide +kernel) (hn : x ≠ "__name__" := by decide) (hdb : (x == ("__debug__" : Str)) = false := by decide) (st : ∀ i, starEach (e :: es) (F i).env = (false, eval e (F i).env) :: starEach es (F i).env := by intro _; rfl) (pl : ∀ i, (backTo pos (starEach es (F i).env)).any (·.1) = false := by intro _; rfl) :
    Ev F W K (.Call (.Name x p) (e :: es) [] pos) env R := by
  intro σ H i sd Q q
  refine ⟨tCB (WC F (.type id)) (WA F (e :: es)), fun z => pe_callTy (wc_call z) (gl_of (fm.es z) hg) (by rw [fm.mg z]; exact hm) hv (wa_pa z) hn hdb (st z) (pl z), ?_⟩
  refine ha σ H i sd _ fun vs H1 rs x1 i1 d1 h1 => ?_
  obtain ⟨ds, rfl, hC⟩ := hc rs h1
  exact hC H1 vs i1 (dn_of_sd d1) Q fun v H' r x' i' d h => q v H' r (x1.trans x') i' d h
theorem ev_callBN (fm : Fam P w K mg base N k sc F) {x : Str} {id : String} {p pos : Pos} {e : Expr} {es : List Expr} {Ra : List Sl → Prop} {R : Sl → Prop} (ha : EvA F W K (e :: es) env Ra) (hm : mg x = none) (hc : ∀ rs, Ra rs → ∃ ds : List PyData, rs = ds.map .dat ∧ Cal F W K (.builtin id) ds R) (hv : bootBuiltins x = some (.builtin id) := by decide +kernel)
    (hg : glB sc x = true := by decide +kernel) (hn : x ≠ "__name__" := by decide) (hdb : (x == ("__debug__" : Str)) = false := by decide) (st : ∀ i, starEach (e :: es) (F i).env = (false, eval e (F i).env) :: starEach es (F i).env := by intro _; rfl) (pl : ∀ i, (backTo pos (starEach es (F i).env)).any (·.1) = false := by intro _; rfl) :
    Ev F W K (.Call (.Name x p) (e :: es) [] pos) env R := by
  intro σ H i sd Q q
  refine ⟨tCB (WC F (.builtin id)) (WA F (e :: es)), fun z => pe_callB (wc_call z) (gl_of (fm.es z) hg) (by rw [fm.mg z]; exact hm) hv (wa_pa z) hn hdb (st z) (pl z), ?_⟩
  refine ha σ H i sd _ fun vs H1 rs x1 i1 d1 h1 => ?_
  obtain ⟨ds, rfl, hC⟩ := hc rs h1
  exact hC H1 vs i1 (dn_of_sd d1) Q fun v H' r x' i' d h => q v H' r (x1.trans x') i' d h
theorem Cal.some {f : Value} {ds : List PyData} {z : PyData} {R : Sl → Prop} (h : C1 F W K f ds z) (hr : R (.dat z)) : Cal F W K f ds R := fun H vs i dn Q q => h H vs i dn Q fun v H' r x' i' d e => q v H' r x' i' d (by rw [e]; exact hr)
theorem e_intN (fm : Fam P w K mg base N k sc F) {e : Expr} {p pos : Pos} (ha : Ev F W K e env fun s => ∃ n, s = .dat (.int n)) (hm : mg "int" = none) (hg : glB sc "int" = true := by decide +kernel)
    (st : ∀ i, starEach [e] (F i).env = (false, eval e (F i).env) :: starEach [] (F i).env := by intro _; rfl) (pl : ∀ i, (backTo pos (starEach [] (F i).env)).any (·.1) = false := by intro _; rfl) : Ev F W K (.Call (.Name "int" p) [e] [] pos) env fun s => ∃ n, s = .dat (.int n) :=
  ev_callTyN (id := "int") fm (ea_cons ha ea_nil st) hm (by
    rintro rs ⟨r, t, rfl, ⟨n, rfl⟩, rfl⟩
    exact ⟨[.int n], rfl, Cal.some c_int ⟨n, rfl⟩⟩) (by decide +kernel) hg (by decide) (by decide) st pl
end
end Cr

set_option Elab.async false
set_option linter.all false
set_option maxRecDepth 100000
set_option maxHeartbeats 4000000
namespace Cr
open PySem PySem.Spec PyProof.Rows L2
section
variable {P : Program} {w : World} {K : PySem.W.Frag} {mg : Str → Option Value} {base : Heap} {k : Nat} {x qual : Str} {st : Stmt} {f : Addr} {fd : FuncData} {N ps : List Str} {sp : Sp}
/-- a def by the reading of its body's term -/
theorem fn_raw (Fu : Fun K x qual st f fd) (S : FnScope N ps (defScope st)) (len : ∀ vs H Q E, sp vs H Q E → vs.length = ps.length)
    (body : ∀ (cdv : Value) (A : Around) (fr : List Env) (s : Shared) (H : Hp) (vs : List V) (Q : VK) (E : XK), A.guards = some [] → Room k (A.deeper (envOfC qual (defScope st) s.heap.objs.size f cdv)) → sp vs H Q E →
      ∃ t, PSs (cxOf CXn P w K mg base N qual (defScope st) f cdv A fr s H E).nox (defBody st) t ∧ t { nx := fun _ H' => Q .non H', rt := Q } (L2.start N vs) H) : FnG P w K mg base (k + 1) f fd ps sp := by
  obtain ⟨oc, od, kV, doc, pm, an, cdv, ct, osl, rfl, lk, hcd⟩ := Fu.ex
  refine fnG_of lk hcd S len fun A fr s H vs Q E g hr hsp => ?_
  obtain ⟨t, h, q⟩ := body cdv A fr s H vs Q E g hr hsp
  exact ⟨t, h.nox, q⟩
end
/-- the law's own script -/
def spScript (K : PySem.W.Frag) (G : Addr → Hp → VK → Prop) : Sp := fun vs H Q _ => ∃ (a : Addr) (ns : List Int), vs = [.ref a] ∧ SqL K H a (ns.map V.int) ∧ ns.length ≤ 63 ∧ G a H Q
abbrev spLaw (K : PySem.W.Frag) : Sp := spScript K fun _ _ Q => ∀ H', Q (.bl true) H'
/-- a pot made of the script -/
abbrev spPot (K : PySem.W.Frag) : Sp := spScript K fun _ H Q => ∀ p c ms H', H p = none → H c = none → Xt H H' → Pot p c ms H' → Q (.ref p) H'
theorem cut_to (ns : List Int) (n : Nat) : cutV (ns.map V.int) none (some (n : Int)) = (ns.take n).map V.int := by
  unfold cutV
  rw [HT.sIx_nat, HT.sIx_none, List.drop_zero, Nat.sub_zero, List.map_take, List.length_map]
  by_cases h : n ≤ ns.length
  · rw [Nat.min_eq_left h]
  · rw [Nat.min_eq_right (by omega), List.take_of_length_le (by rw [List.length_map]; omega), List.take_of_length_le (by rw [List.length_map]; omega)]
theorem cut_in (ns : List Int) (lo hi : Option Int) : ∃ ms : List Int, cutV (ns.map V.int) lo hi = ms.map V.int := by
  unfold cutV
  exact ⟨(ns.drop _).take _, by rw [List.map_take, List.map_drop]⟩
theorem cut_from0 (ns : List Int) (lo : Nat) (hi : Option Int) (h : ns.length ≤ lo) : cutV (ns.map V.int) (some (lo : Int)) hi = [] := by
  unfold cutV
  rw [HT.sIx_nat, Nat.min_eq_right (by rw [List.length_map]; exact h), List.drop_length, List.take_nil]
section
variable {P : Program} {w : World} {K : PySem.W.Frag} {mg : Str → Option Value} {base : Heap} {k : Nat} {x qual : Str} {st : Stmt} {f : Addr} {fd : FuncData} {N ps : List Str} {sp : Sp}
/-- the law: its pot first, then the rest in the pot's world -/
theorem fn_law {p1 p2 p3 p4 p5 : Pos} {rest : List Stmt} {j : Nat} (Fu : Fun K "law" "law" st f fd) (S : FnScope ("script" :: "pot" :: N) ["script"] (defScope st)) (hb : defBody st = .Assign [.Name "pot" p1] (.Call (.Name "_law_pot_of" p2) [.Name "script" p3] [] p4) p5 :: rest)
    (o : Own P w K mg base "_law_pot_of" j ["script"] (spPot K)) (hj : j ≤ k) (h1 : visB (defScope st) "script" = true := by decide +kernel) (h2 : locB (defScope st) "pot" = true := by decide +kernel) (h3 : glB (defScope st) "_law_pot_of" = true := by decide +kernel)
    (body : ∀ (cdv : Value) (A : Around) (fr : List Env) (s : Shared) (H : Hp) (E : XK) (a p c : Addr) (ms : List Int), Fam P w K mg base ("script" :: "pot" :: N) k (defScope st) (DF P w K mg base ("script" :: "pot" :: N) "law" (defScope st) f cdv A fr s H E) →
      Bd (DF P w K mg base ("script" :: "pot" :: N) "law" (defScope st) f cdv A fr s H E) (potW p c ms) K rest (.raw (.ref a) :: .raw (.ref p) :: List.replicate N.length .any) { nx := fun _ => False, rt := fun z => z = .dat (.bool true) }) : FnG P w K mg base (k + 1) f fd ["script"] (spLaw K) := by
  refine fn_raw Fu S (fun vs H Q E ⟨a, ns, e, _⟩ => by rw [e]; rfl) fun cdv A fr s H vs Q E g hr hsp => ?_
  obtain ⟨a, ns, rfl, hS, hl, q⟩ := hsp
  obtain ⟨fp, fdp, hm, hk, hbn, G⟩ := o.ex
  have fm : Fam P w K mg base ("script" :: "pot" :: N) k (defScope st) (DF P w K mg base ("script" :: "pot" :: N) "law" (defScope st) f cdv A fr s H E) :=
    ⟨fun _ => rfl, S.kind, fun _ => rfl, fun _ => rfl, fun _ => rfl, fun _ => rfl, fun _ => rfl, fun _ => rfl, S.nd, fun _ => rfl, fun _ => g, fun _ => hr⟩
  refine ⟨tSeq (tAsg (tCall (spPot K) [] E0 (tCons (tVar 0) tNil)) (gName 1)) (WS (DF P w K mg base ("script" :: "pot" :: N) "law" (defScope st) f cdv A fr s H E) rest), ?_, ?_⟩
  · rw [hb]
    exact pss_cons (ps_set S.nd rfl (loc_of rfl h2) (pe_callG (X := (cxOf CXn P w K mg base ("script" :: "pot" :: N) "law" (defScope st) f cdv A fr s H E).nox) G g (hr.mono hj) (gl_of rfl h3) hm hk hbn .nil (pa_cons (pe_var (i := 0) rfl (vis_of rfl h1)) pa_nil) E0) rfl (Or.inl rfl)) (ws_ps (F := DF P w K mg base ("script" :: "pot" :: N) "law" (defScope st) f cdv A fr s H E) ())
  · refine ⟨.ref a, rfl, a, ns, rfl, hS, hl, fun p c ms H' hp hc xt pot => ?_⟩
    refine body cdv A fr s H E a p c ms fm _ H' _ pot ?_ ⟨fun _ _ _ _ _ _ z => z.elim, fun v H2 r _ _ dv e => ?_, fun _ _ _ _ _ _ z => z.elim, fun _ _ _ _ _ _ z => z.elim⟩
    · refine ⟨rfl, rfl, ?_⟩
      show Sd _ _ _ (List.replicate _ none) _
      exact Sd.nones _
    · rw [show r = .dat (.bool true) from e] at dv
      obtain ⟨u, z, d⟩ := dv
      cases z
      cases d
      exact q H2
end
end Cr

set_option Elab.async false
set_option linter.all false
set_option maxRecDepth 100000
set_option maxHeartbeats 4000000
namespace Cr
open PySem PySem.Spec PyProof.Rows L2
section
variable {ι : Type} {F : ι → Cx} {P : Program} {w : World} {K : PySem.W.Frag} {mg : Str → Option Value} {base : Heap} {N : List Str} {k : Nat} {sc : Scope} {W : Wd} {env : List Sl}

/-! ## dicts with written texts as keys -/
theorem merge_app : ∀ (more acc : List (Key × V)), ((acc ++ more).map (·.1)).Nodup → mergeK acc more = acc ++ more
  | [], acc, _ => by rw [List.append_nil]; rfl
  | kv :: more, acc, h => by
    have e : putK acc kv.1 kv.2 = acc ++ [kv] := by
      unfold putK
      rw [if_neg]
      intro c
      obtain ⟨q, hq, hk⟩ := List.any_eq_true.mp c
      rw [List.map_append, List.map_cons] at h
      have hd := (List.nodup_append.mp h).2.2 q.1 (List.mem_map.mpr ⟨q, hq, rfl⟩) kv.1 List.mem_cons_self
      exact hd (of_decide_eq_true hk)
    show mergeK (putK acc kv.1 kv.2) more = _
    rw [e, merge_app more (acc ++ [kv]) (by rw [List.append_assoc]; exact h), List.append_assoc] <;> rfl
def txtKv (ks : List Str) (vs : List V) : List (Key × V) := (ks.zip vs).map fun p => (.inr p.1, p.2)
theorem kv_get {H : Hp} {x : Str} {d : PyData} : ∀ {ks : List Str} {ds : List PyData} {vs : List V}, DnAll W K H vs ds → (ks.zip ds).lookup x = some d → ∃ v, valV (txtKv ks vs) (.inr x) = some v ∧ Dn W K H v d
  | [], _, _, _, e => by simp at e
  | y :: ks, [], _, _, e => by simp at e
  | y :: ks, dy :: ds, _, h, e => by
    cases h with
    | @cons v vs _ _ a t =>
      by_cases c : y = x
      · subst c
        have e2 : dy = d := by simpa using e
        subst e2
        refine ⟨v, ?_, a⟩
        unfold txtKv valV
        rw [List.zip_cons_cons, List.map_cons, List.find?_cons_of_pos (by simp)] <;> rfl
      · have e2 : (ks.zip ds).lookup x = some d := by
          rw [List.zip_cons_cons, List.lookup_cons] at e
          rwa [show (x == y) = false from beq_eq_false_iff_ne.mpr (Ne.symm c)] at e
        obtain ⟨v', h1, h2⟩ := kv_get t e2
        refine ⟨v', ?_, h2⟩
        unfold txtKv valV at h1 ⊢
        rw [List.zip_cons_cons, List.map_cons, List.find?_cons_of_neg]
        · exact h1
        · intro z
          have z := of_decide_eq_true z
          injection z with z
          exact c z
theorem txt_nodup : ∀ {ks : List Str} {vs : List V}, ks.Nodup → ((([] : List (Key × V)) ++ txtKv ks vs).map fun p => p.1).Nodup := by
  intro ks vs h
  rw [List.nil_append]
  unfold txtKv
  rw [List.map_map]
  induction ks generalizing vs with
  | nil => simp
  | cons x ks ih =>
    cases vs with
    | nil => simp
    | cons v vs =>
      rw [List.zip_cons_cons, List.map_cons, List.nodup_cons]
      refine ⟨fun m => ?_, ih (List.nodup_cons.mp h).2⟩
      obtain ⟨⟨y, u⟩, hm, e⟩ := List.mem_map.mp m
      have e : (Sum.inr y : Key) = .inr x := e
      injection e with e
      exact (List.nodup_cons.mp h).1 (e ▸ (List.of_mem_zip hm).1)
def trsOf (F : ι → Cx) : List Str → List Expr → List (TE × TE)
  | x :: ks, e :: es => (tC (.str x), WE F e) :: trsOf F ks es
  | _, _ => []
/-- the values of a display, in a world where the empty dict at p waits -/
def EvP (F : ι → Cx) (W : Wd) (K : PySem.W.Frag) (es : List Expr) (env : List Sl) (ds : List PyData) : Prop :=
  ∀ (ks : List Str), ks.length = es.length → ∀ (σ : L2.St) (H : Hp), W.I H → Sd W K H σ env → ∀ Q : List (V × V) → Hp → Prop, (∀ vs H', Wx W H H' → W.I H' → DnAll W K H' vs ds → Q ((ks.zip vs).map fun p => (.str p.1, p.2)) H') → tPairs (trsOf F ks es) σ H Q
theorem p_nil : EvP F W K [] env [] := by
  intro ks hl σ H i sd Q q
  cases ks with
  | nil => exact q [] H (Wx.refl W H) i .nil
  | cons _ _ => exact absurd hl (by simp)
theorem p_cons {e : Expr} {es : List Expr} {d : PyData} {ds : List PyData} (h : E1 F W K e env (.dat d)) (t : EvP F W K es env ds) : EvP F W K (e :: es) env (d :: ds) := by
  intro ks hl σ H i sd Q q
  cases ks with
  | nil => exact absurd hl (by simp)
  | cons x ks =>
    show WE F e σ H _
    refine h σ H i sd _ fun v H1 r x1 i1 d1 h1 => ?_
    subst h1
    obtain ⟨u, z, n1⟩ := d1
    cases z
    refine t ks (by simpa using hl) σ H1 i1 (sd.mono x1) _ fun vs H2 x2 i2 dn => ?_
    exact q (v :: vs) H2 (x1.trans x2) i2 (.cons (n1.mono x2) dn)
theorem pps_of {pos : Pos} {jj : Nat} {ps : List Pos} : ∀ {ks : List Str} {es : List Expr} (z : ι), ks.length = es.length → ps.length = ks.length → PPs (F z) pos ((ks.zip ps).map fun p => some (.Constant (.str p.1) jj p.2)) es (trsOf F ks es)
  | [], [], z, _, _ => pps_nil
  | x :: ks, e :: es, z, h, h2 => by
    cases ps with
    | nil => exact absurd h2 (by simp)
    | cons p ps => exact pps_cons pe_str (we_pe z) (pps_of z (by simpa using h) (by simpa using h2))
  | [], _ :: _, _, h, _ => absurd h (by simp)
  | _ :: _, [], _, h, _ => absurd h (by simp)
def posOf (keys : List (Option Expr)) : List Pos := keys.map fun k => match k with
  | some (.Constant _ _ p) => p
  | _ => ⟨0, 0, 0, 0⟩
/-- {'a': .., 'b': ..}[key] -/
theorem ev_dispGet (fm : Fam P w K mg base N k sc F) {keys : List (Option Expr)} {es : List Expr} {ke : Expr} {dpos pos : Pos} {ds : List PyData} {x : Str} {d : PyData} (ks : List Str) (hk : keys = (ks.zip (posOf keys)).map fun p => some (.Constant (.str p.1) 0 p.2)) (l1 : ks.length = es.length) (l2 : (posOf keys).length = ks.length) (nd : ks.Nodup) (n0 : 0 < ks.length) (n1 : ks.length ≤ 15)
    (hv : ∀ D, ¬ W.M D → EvP F (W.plus D (.dK [])) K es env ds) (hx : E1 F W K ke env (.dat (.str x))) (hd : (ks.zip ds).lookup x = some d) (hs : NoSl ke := by exact fun _ _ => rfl) : E1 F W K (.Subscript (.Dict keys es dpos) ke pos) env (.dat d) := by
  intro σ H i sd Q q
  have len : keys.length = ks.length := by unfold posOf at l2; rwa [List.length_map] at l2
  refine ⟨tDGet (tDisp (trsOf F ks es)) (WE F ke), fun z => pe_dget (by have := (fm.ro z).units; omega) (pe_disp (Eq.mpr (congrArg (fun q => PPs (F z) dpos q es (trsOf F ks es)) hk) (pps_of z l1 l2)) ?_ (by rw [len, l1]) ?_ (by rw [len]; exact n1)) (we_pe z) hs, ?_⟩
  · refine List.all_eq_true.mpr fun q hq => ?_
    rw [hk] at hq
    obtain ⟨r, _, e⟩ := List.mem_map.mp hq
    rw [← e] <;> rfl
  · intro c
    rw [c] at len
    simp at len
    omega
  · intro p hp
    obtain ⟨np, xp, ip⟩ := W.new (o := .dK []) i hp
    have sd2 : Sd (W.plus p (.dK [])) K (upd H p (.dK [])) σ env := (sd.to (plus_of hp)).mono fun b o _ h => Xt.new hp b o h
    refine hv p np ks l1 σ _ ⟨ip, upd_same⟩ sd2 _ fun vs H2 x2 i2 dn => ?_
    have keep : ∀ b o, ¬ W.M b → H b = some o → upd H2 p (.dK (txtKv ks vs)) b = some o := fun b o n h => by
      have nb : b ≠ p := ne_of_none h hp
      rw [upd_ne nb]
      exact x2 b o (fun m => m.elim n nb) (Xt.new hp b o h)
    refine ⟨i2.2, txtKv ks vs, ?_, ?_, ?_⟩
    · unfold txtKv
      rw [List.map_map] <;> rfl
    · unfold txtKv
      rw [List.length_map, List.length_zip]
      omega
    · rw [merge_app _ _ (txt_nodup nd)]
      show WE F ke σ (upd H2 p (.dK (txtKv ks vs))) _
      refine hx σ _ (W.loc _ _ i2.1 fun b m => upd_ne (show b ≠ p from fun z => np (by rw [← z]; exact m))) (sd.mono keep) _ fun y H4 r x4 i4 d4 h4 => ?_
      subst h4
      obtain ⟨u, z, n4⟩ := d4
      cases z
      cases n4
      have up : Wx (W.plus p (.dK [])) H2 (upd H2 p (.dK (txtKv ks vs))) := fun b o n h => by
        rw [upd_ne fun z => n (Or.inr z)]
        exact h
      have dn4 : DnAll W K H4 vs ds := DnAll.mono x4 (DnAll.to (W := W.plus p (.dK [])) (W' := W) (fun _ _ m => Or.inl m) (dn.mono up))
      obtain ⟨v, hv1, hv2⟩ := kv_get dn4 hd
      have e4 : H4 p = some (.dK (txtKv ks vs)) := x4 p _ np upd_same
      refine ⟨p, v, rfl, ?_, q v H4 _ (fun b o n h => x4 b o n (keep b o n h)) i4 hv2.dv rfl⟩
      rw [← hv1]
      exact DGet.k (k := .inr x) e4
end
end Cr

set_option Elab.async false
set_option linter.all false
set_option maxRecDepth 100000
set_option maxHeartbeats 4000000
namespace Cr
open PySem PySem.Spec PyProof.Rows L2

/-! ## how long repr's text is -/
structure RP (d : PyData) (n : Nat) : Prop where
  sh : d.showable = true
  sz : d.shown.length ≤ n
structure RPs (ds : List PyData) (n : Nat) : Prop where
  sh : PyData.showableAll ds = true
  sz : piled (PyData.shownAll ds) ≤ n
theorem RP.none : RP .none 4 := ⟨by simp only [PyData.showable], by simp only [PyData.shown]; decide +kernel⟩
theorem RP.bool {b : Bool} : RP (.bool b) 5 := ⟨by simp only [PyData.showable], by simp only [PyData.shown]; cases b <;> decide +kernel⟩
theorem RP.int {i : Int} (h : i.natAbs < 2 ^ 100) : RP (.int i) 101 := by
  have hl : i.natAbs.log2 < 100 := PySem.Flt.log2_lt_of (by decide) h
  refine ⟨?_, ?_⟩
  · simp only [PyData.showable]
    exact decide_eq_true (by omega)
  · simp only [PyData.shown]
    have e := int_text_length_le (k := 100) (by decide) hl
    rw [PySem.ofString_length]
    exact e
theorem RP.str {x : Str} (h : PyData.strOk x = true) : RP (.str x) (10 * x.length + 2) := by
  refine ⟨by simp only [PyData.showable], ?_⟩
  simp only [PyData.shown]
  refine StrLaws.reprText_len x fun c hc => ?_
  unfold PyData.strOk at h
  rw [Array.all_eq_true'] at h
  have := of_decide_eq_true (h c (by simpa using hc))
  exact Nat.lt_trans this (by decide)
theorem RPs.nil : RPs [] 0 := ⟨by simp only [PyData.showableAll], by simp only [PyData.shownAll]; exact Nat.le_refl _⟩
theorem RPs.cons {d : PyData} {ds : List PyData} {n m : Nat} (h : RP d n) (t : RPs ds m) : RPs (d :: ds) (n + 2 + m) :=
  ⟨by simp only [PyData.showableAll, h.sh, t.sh, Bool.and_self], by simp only [PyData.shownAll]; rw [piled_cons]; have := h.sz; have := t.sz; omega⟩
theorem RP.tuple {ds : List PyData} {n : Nat} (h : RPs ds n) : RP (.tuple ds) (n + 2) := ⟨by simp only [PyData.showable]; exact h.sh, by simp only [PyData.shown]; have := fmt_text (PyData.shownAll ds); have := h.sz; omega⟩
theorem RP.up {d : PyData} {n m : Nat} (h : RP d n) (l : n ≤ m) : RP d m := ⟨h.sh, Nat.le_trans h.sz l⟩
theorem Shows.of {d : PyData} {n : Nat} (h : Nice d 20) (r : RP d n) (l : n ≤ 1000000 := by decide) : Shows d := ⟨r.sh, h.nd, Nat.le_trans r.sz (sz_small (by omega)), Nat.le_trans h.dp (by decide)⟩
section
variable {ι : Type} {F : ι → Cx} {P : Program} {w : World} {K : PySem.W.Frag} {mg : Str → Option Value} {base : Heap} {N : List Str} {k : Nat} {sc : Scope} {W : Wd} {env : List Sl}
/-- a list whose items are not told exactly -/
theorem ev_lstN {es : List Expr} {pos} {Rs : List Sl → Prop} {R : Sl → Prop} (h : EvA F W K es env Rs) (hr : ∀ rs, Rs rs → ∃ ds : List PyData, rs = ds.map .dat ∧ ds.length ≤ 1000000 ∧ R (.dat (.list ds))) : Ev F W K (.List es pos) env R := by
  intro σ H i sd Q q
  refine ⟨tLst (WA F es), fun z => pe_lst (wa_pa z), ?_⟩
  refine h σ H i sd _ fun vs H1 rs x1 i1 d1 h1 => ?_
  obtain ⟨ds, rfl, hz, hR⟩ := hr rs h1
  have dn := dn_of_sd d1
  refine ⟨by rw [dn.length]; exact sz_small (by omega), fun p hp => ?_⟩
  obtain ⟨x2, i2, d2⟩ := new_lst i1 hp dn
  exact q _ _ _ (x1.trans x2) i2 d2.dv hR
/-- for tg in a tuple -/
theorem bd_forT (fm : Fam P w K mg base N k sc F) {tg a : Expr} {pos : Pos} {body rest : List Stmt} {Po : Post} {ds : List PyData} (Iv : Nat → List Sl → Prop) (ha : E1 F W K a env (.dat (.tuple ds))) (h0 : Iv 0 env)
    (hs : ∀ (i : Nat) d env1, ds[i]? = some d → Iv i env1 → ∃ env2, Tg F W K tg (.dat d) env1 env2 ∧ Bd F W K body env2 { Po with nx := Iv (i + 1), ct := Iv (i + 1), bk := fun e => Bd F W K rest e Po }) (hd : ∀ env1, Iv ds.length env1 → Bd F W K rest env1 Po)
    (hp : ∀ i, PassesOwn (model (F i).prog (F i).w) (F i).A (F i).env (F i).xe := by intro _; exact PassesOwn.never) (hf : ∀ i x, foldedSetIterable a (F i).env x = pure x := by intro _ _; rfl) : Bd F W K (.For tg a body [] pos :: rest) env Po := by
  intro σ H D ii sd g
  refine ⟨tSeq (tFor (iTup K (WE F a)) (WG F tg) (WS F body)) (WS F rest), fun z => pss_cons (ps_for (hp z) (fm.ca z) (by have := pi_tup (tg := tg) (we_pe (F := F) (e := a) z); rwa [fm.kk z] at this) (wg_pg z) (ws_ps z) (hf z)) (ws_ps z), ?_⟩
  refine ha σ H ii sd _ fun v H1 r x1 i1 d1 h1 => ?_
  subst h1
  obtain ⟨u, e, dn⟩ := d1
  cases e
  cases dn with
  | @tup ad xs _ la da =>
    refine ⟨ad, rfl, ⟨xs, la.sq⟩, for_tup (D := { D with nx := WS F rest D }) (fun i σ' H' => ∃ e, Wx W H1 H' ∧ W.I H' ∧ Sd W K H' σ' e ∧ Iv i e) ⟨env, Wx.refl W H1, i1, sd.mono x1, h0⟩ (fun i σ' H' _ ⟨e, x', _⟩ => (la.mono x').sq) ?_ ?_⟩
    · intro i x σ' H' hx ⟨e, x', i', s', iv⟩
      obtain ⟨d, hd2, dn⟩ := da.getV hx
      obtain ⟨env2, ht, hb⟩ := hs i d e hd2 iv
      refine ht x σ' H' i' s' (dn.mono x').dv _ fun σ2 H2 x2 i2 s2 => ?_
      refine hb σ2 H2 _ i2 s2 ⟨fun σ3 H3 e3 y j s3 h3 => ⟨e3, (x'.trans x2).trans y, j, s3, h3⟩, fun v H3 r y => g.rt v H3 r (x1.trans ((x'.trans x2).trans y)), fun σ3 H3 e3 y j s3 h3 => h3 σ3 H3 D j s3 (g.mono (x1.trans ((x'.trans x2).trans y))), fun σ3 H3 e3 y j s3 h3 => ⟨e3, (x'.trans x2).trans y, j, s3, h3⟩⟩
    · intro σ' H' ⟨e, x', i', s', iv⟩
      rw [da.length] at iv
      exact hd e iv σ' H' D i' s' (g.mono (x1.trans x'))

/-! ## tests that do not hold -/
theorem bd_ifF {c : Expr} {a rest : List Stmt} {pos : Pos} {Po : Post} (hc : T1 F W K c env false) (h : Bd F W K rest env Po) : Bd F W K (.If c a [] pos :: rest) env Po :=
  bd_if hc (fun e => absurd e (by decide)) fun _ => bd_nil h
theorem wf_one {a : Expr} {pos : Pos} (h : T1 F W K a env false) : EvW F W K (.BoolOp .Or [a] pos) env fun b => b = false := ew_or1 h
theorem wf_or {a b : Expr} {rest : List Expr} {pos : Pos} (h : T1 F W K a env false) (t : EvW F W K (.BoolOp .Or (b :: rest) pos) env fun b => b = false) : EvW F W K (.BoolOp .Or (a :: b :: rest) pos) env fun b => b = false :=
  ew_or h (fun _ => t) fun e => absurd e (by decide)
theorem ne_self {α : Type} [DecidableEq α] {x : α} : (!decide (x = x)) = false := by rw [decide_eq_true rfl] <;> rfl
mutual
theorem eqv_self : ∀ {d : PyData}, noDict d = true → PyData.eqv d d = true
  | .none, _ => by simp only [PyData.eqv]
  | .bool _, _ => by simp only [PyData.eqv, beq_self_eq_true]
  | .int _, _ => by simp only [PyData.eqv, beq_self_eq_true]
  | .str _, _ => by simp only [PyData.eqv, beq_self_eq_true]
  | .list xs, h => by
    simp only [PyData.eqv]
    exact eqv_selfs (by simpa only [noDict] using h)
  | .tuple xs, h => by
    simp only [PyData.eqv]
    exact eqv_selfs (by simpa only [noDict] using h)
  | .dict _, h => by simp [noDict] at h
theorem eqv_selfs : ∀ {ds : List PyData}, noDictAll ds = true → PyData.eqvAll ds ds = true
  | [], _ => by simp only [PyData.eqvAll]
  | d :: ds, h => by
    have h2 : noDict d = true ∧ noDictAll ds = true := by simpa [noDictAll] using h
    simp only [PyData.eqvAll, eqv_self h2.1, eqv_selfs h2.2, Bool.and_self]
end
theorem eqv_ne {d e : PyData} {n : Nat} (h : Nice d n) (z : d = e) : (!PyData.eqv d e) = false := by
  subst z
  rw [eqv_self h.nd] <;> rfl
theorem eqv_is {d e : PyData} {n : Nat} (h : Nice d n) (z : d = e) : PyData.eqv d e = true := by
  subst z
  exact eqv_self h.nd
end
end Cr

set_option Elab.async false
set_option linter.all false
set_option maxRecDepth 100000
set_option maxHeartbeats 4000000
namespace Cr
open PySem PySem.Spec PyProof.Rows L2
/-- what the head leaves of a def of the text -/
def DefF (K : PySem.W.Frag) (x : Str) (st : Stmt) : Prop := ∃ (f : Addr) (oc : Value) (od an : Option Addr) (sl : Array (Option Value)) (kV dc pm cd ct : Value),
  PySem.W.nsIn K mainGlobals x = some (some (.ref f)) ∧ K.lookup f = some ⟨oc, od, .func (PySem.W.fnOf x x (defArgs st) (defBody st) (defScope st) .none kV dc pm an cd ct), sl⟩ ∧ PySem.W.codeIn K cd x = true ∧ PySem.W.keepIn K (.ref f) = true
theorem dfn_mk {K : PySem.W.Frag} {x : Str} {st : Stmt} {f : Addr} {oc : Value} {od an : Option Addr} {sl : Array (Option Value)} {kV dc pm cd ct : Value}
    (a : PySem.W.nsIn K mainGlobals x = some (some (.ref f))) (l : K.lookup f = some ⟨oc, od, .func (PySem.W.fnOf x x (defArgs st) (defBody st) (defScope st) .none kV dc pm an cd ct), sl⟩) (c : PySem.W.codeIn K cd x = true) (k : PySem.W.keepIn K (.ref f) = true) : DefF K x st :=
  ⟨f, oc, od, an, sl, kV, dc, pm, cd, ct, a, l, c, k⟩
def BindsB (x : Str) (st : Stmt) (ps : List Str) : Prop := ∀ (kV doc pm : Value) (an : Option Addr) (cdv ct : Value) (us : List Value), us.length = ps.length → bindArgs (PySem.W.fnOf x x (defArgs st) (defBody st) (defScope st) .none kV doc pm an cdv ct) ⟨us, []⟩ = pure (ps.zip us)
theorem own_mk {P : Program} {w : World} {K : PySem.W.Frag} {mg : Str → Option Value} {base h : Heap} {x : Str} {st : Stmt} {j : Nat} {ps : List Str} {sp : Sp} (X : K.In h) (G : h.Ns mainGlobals mg) (d : DefF K x st) (hb : BindsB x st ps)
    (ok : ∀ f fd, Fun K x x st f fd → FnG P w K mg base j f fd ps sp) : Own P w K mg base x j ps sp := by
  obtain ⟨f, oc, od, an, sl, kV, dc, pm, cd, ct, a, l, c, k⟩ := d
  have Fu := fun_mk (st := st) l c k
  exact ⟨f, _, PySem.W.mg_of X G a, k, Fu.binds hb, ok f _ Fu⟩
theorem law_mk {P : Program} {w : World} {K : PySem.W.Frag} {mg : Str → Option Value} {h : Heap} {fa : Addr} {st : Stmt} {j : Nat} {sp : Sp} (X : K.In h) (G : h.Ns mainGlobals mg) (hfa : mg "law" = some (.ref fa)) (d : DefF K "law" st) (hd : (defArgs st).defaults = []) (hb : ∀ (kV doc pm : Value) (an : Option Addr) (cdv ct v : Value), bindArgs (PySem.W.fnOf "law" "law" (defArgs st) (defBody st) (defScope st) .none kV doc pm an cdv ct) ⟨[v], []⟩ = pure [(("script" : Str), v)])
    (ok : ∀ (base : Heap), K.In base → base.Ns mainGlobals mg → ∀ f fd, Fun K "law" "law" st f fd → FnG P w K mg base j f fd ["script"] sp) :
    ∃ fd : FuncData, (∀ (s : Shared) (u : Value), BindsTo s fd ⟨[u], []⟩ [("script", u)]) ∧ ∀ base : Heap, K.In base → base.Ns mainGlobals mg → FnG P w K mg base j fa fd ["script"] sp := by
  obtain ⟨f, oc, od, an, sl, kV, dc, pm, cd, ct, a, l, c, k⟩ := d
  have e := hfa.symm.trans (PySem.W.mg_of X G a)
  cases e
  exact ⟨_, fun s u => .of_eq (hb _ _ _ _ _ _ _), fun base b1 b2 => ok base b1 b2 fa _ (fun_mk (st := st) l c k)⟩
end Cr

set_option Elab.async false
set_option linter.all false
set_option maxRecDepth 100000
set_option maxHeartbeats 4000000
namespace Cr
open PySem PySem.Spec PyProof.Rows L2
open PySem.MeetsSeq

/-! ## the law's own call where the table of the modules is known to stand -/
section
variable {P : Program} {w : World} {K : PySem.W.Frag} {mg mb : Str → Option Value} {k : Nat} {fa a : Addr} {fd : FuncData} {x : Str} {sp : Sp} {s₁ : Shared} {vs : List Value} {ns : List Int}
theorem lawS (kin : K.In s₁.heap) (hns : s₁.heap.Ns mainGlobals mg) (hb : s₁.heap.Ns builtinsNs mb) (hbb : ∀ x : Str, x ≠ "__name__" → mb x = bootBuiltins x) (nolim : s₁.heap.NoLimit) (sm : ∃ mm, s₁.heap.Ns sysModules mm) (ng : s₁.gens = #[])
    (ha : s₁.heap.get? a = some { cls := .type "list", data := .seq vs.toArray }) (intsOk : IntsAre vs ns) (short : ns.length ≤ sizeLine) (hr : Room k callerA)
    (F : ∀ base : Heap, K.In base → base.Ns mainGlobals mg → (base.get? sysModules).isSome = true → FnG P w K mg base k fa fd [x] sp) (binds : ∀ (s : Shared) (u : Value), BindsTo s fd ⟨[u], []⟩ [(x, u)])
    (hsp : ∀ H : Hp, Only H → SqL K H a (ns.map V.int) → sp [.ref a] H (fun v _ => v = .bl true) fun _ _ _ => False) :
    codeAny (model P w) callerA (.call (.ref fa) ⟨[.ref a], []⟩) (LawEnd s₁) s₁ := by
  have rel := vals_ints intsOk
  have ll := intsOk.length
  -- the promise, from a heap that knows the script at most
  have main : ∀ H : Hp, Only H → SqL K H a (ns.map V.int) → HOk P w H s₁.heap → (∀ b, H b ≠ none → b = a ∧ K.lookup a = none) → codeAny (model P w) callerA (.call (.ref fa) ⟨[.ref a], []⟩) (LawEnd s₁) s₁ := by
    intro H only sq ok atA
    have isA : ∀ {b : Addr} {u : HO}, H b = some u → b = a ∧ K.lookup a = none := fun {b u} z => atA b (by rw [z]; exact fun c => nomatch c)
    have hid : ∀ {b : Addr} {m : Str → Option Value}, s₁.heap.Ns b m → (hidT s₁.heap H).Ns b m := by
      rintro b m ⟨o, es, ep, z, d, rr⟩
      refine ⟨o, es, ep, hidT_get z ?_, d, rr⟩
      match hq : H b with
      | none => rfl
      | some u =>
        have hba := (isA hq).1
        rw [hba, ha] at z
        cases z
        exact absurd (show Data.seq vs.toArray _ = Data.dict es ep from d) (fun c => nomatch c)
    have kin' : K.In (hidT s₁.heap H) := by
      intro b o z
      refine hidT_get (kin b o z) ?_
      match hq : H b with
      | none => rfl
      | some u =>
        obtain ⟨e1, e2⟩ := isA hq
        rw [e1, e2] at z
        cases z
    have md : Mod K mg (hidT s₁.heap H) := by
      obtain ⟨mc, l1, l2⟩ := nolim
      exact ⟨kin', hid hns, ⟨mb, hid hb, hbb⟩, ⟨mc, hid l1, l2⟩⟩
    have env0 : Env0 P w K mg (hidT s₁.heap H) callerA [] s₁ H :=
      ⟨rfl, md, fun b o z => of_hidT z, Nat.le_of_eq (hidT_size _ _), trivial, (fun b z => nomatch (show b ∈ ([] : List Addr) from z)), ok, .of_eq ng⟩
    refine codeAny_mono ((F _ kin' (hid hns) (by obtain ⟨mm, hm⟩ := sm; obtain ⟨o, _, _, e, _⟩ := hid hm; rw [e]; rfl)).run callerA [] s₁ H ⟨[.ref a], []⟩ [.ref a] [.ref a] _ _ rfl hr env0 (binds s₁ (.ref a)) (.cons rfl .nil) (hsp H only sq)) ?_
    intro res s' hres
    match res, hres with
    | .ok (.ret u), ⟨v, H', os', bare', un', ok', rv, isT⟩ =>
      cases (show v = .bl true from isT)
      cases (show u = Value.bool true from rv)
      refine ⟨rfl, OldK.of_keep ?_, os', bare'⟩
      intro b o z
      match hq : H b with
      | none => exact un'.keep b o z hq (fun c => nomatch (show b ∈ ([] : List Addr) from c)) (fun c => nomatch c)
      | some u =>
        rcases only b with c | ⟨ob, xs, c⟩
        · rw [hq] at c
          cases c
        · have now := (ok' b _ (un'.frzs b ob _ c)).1
          have was := (ok b _ c).1
          rw [z] at was
          cases was
          exact now
  by_cases hk : K.lookup a = none
  · let H₀ : Hp := fun b => if b = a then some (.frz { cls := .type "list", data := .seq vs.toArray } (.lst (ns.map V.int))) else none
    have at0 : ∀ {b u}, H₀ b = some u → b = a ∧ u = .frz { cls := .type "list", data := .seq vs.toArray } (.lst (ns.map V.int)) := by
      intro b u z
      by_cases c : b = a
      · exact ⟨c, (Option.some.inj ((if_pos c).symm.trans z)).symm⟩
      · exact nomatch (if_neg c).symm.trans z
    refine main H₀ (fun b => ?_) (Or.inl (Or.inr ⟨_, if_pos rfl⟩)) (fun b u z => ?_) (fun b z => ?_)
    · by_cases c : b = a
      · exact Or.inr ⟨_, _, if_pos c⟩
      · exact Or.inl (if_neg c)
    · obtain ⟨e1, e2⟩ := at0 z
      rw [e1, e2]
      exact ⟨ha, by rw [List.length_map]; exact short, vs, _, rel, ha⟩
    · match hq : H₀ b with
      | none => exact absurd hq z
      | some u => exact ⟨(at0 hq).1, hk⟩
  · obtain ⟨o, ho⟩ := Option.ne_none_iff_exists'.mp hk
    have z := kin a o ho
    rw [ha] at z
    cases z
    exact main (fun _ => none) (fun _ => Or.inl rfl) (Or.inr ⟨_, vs.toArray, _, ho, rfl, rfl, rfl, by rw [List.size_toArray, ll]; exact short, by simpa using rel⟩)
      (fun b u c => nomatch (show (none : Option HO) = some u from c)) (fun b c => absurd rfl c)
end
theorem walkS {l : PySem.W.OpenLaw} {n k : Nat} {q : Program} {loose : List Str} {XP : (Str → Option Value) → Heap → Prop} {YP : World → Heap → Prop} {d : DefRec} {K : Params → PySem.W.Frag} {sp : PySem.W.Frag → Sp} {x : Str}
    (most : l.most = some n) (most' : n ≤ sizeLine) (nodef : d.params.defaults = []) (room : Room k callerA) (imp : PyProof.Rows.importsNone q = true) (kin : ∀ (w : World) (h : Heap), YP w h → (K w.params).In h)
    (F : ∀ (w : World) (mg : Str → Option Value) (fa : Addr) (h : Heap), (K w.params).In h → h.Ns mainGlobals mg → mg d.name = some (.ref fa) →
      ∃ fd : FuncData, (∀ (s : Shared) (u : Value), BindsTo s fd ⟨[u], []⟩ [(x, u)]) ∧ ∀ base : Heap, (K w.params).In base → base.Ns mainGlobals mg → (base.get? sysModules).isSome = true → FnG l.prog w (K w.params) mg base k fa fd [x] (sp (K w.params)))
    (hsp : ∀ (K : PySem.W.Frag) (H : Hp) (a : Addr) (ns : List Int), ns.length ≤ n → Only H → SqL K H a (ns.map V.int) → sp K [.ref a] H (fun v _ => v = .bl true) fun _ _ _ => False) :
    PySem.W.WalkO q loose XP YP l.row.toRowW d [] (fun f vs => PySem.call f vs) := by
  refine Att.attach_call most nodef ?_
  intro w s₀ s₁ mg mb fa o pm cd doc a vs ns G Y ho hd hcd hmg hobj hints hlen hg
  have kk := kin w _ Y
  obtain ⟨fd, bb, FF⟩ := F w mg fa _ kk G.T.g hmg
  exact lawS kk G.T.g G.T.b G.T.builtins G.T.nolimit (let ⟨mm, e, _⟩ := (G.T.seer imp).mods; ⟨mm, e⟩) hg hobj hints (Nat.le_trans hlen most') room FF bb (fun H only sq => hsp _ H a ns hlen only sq)
theorem law_mkS {P : Program} {w : World} {K : PySem.W.Frag} {mg : Str → Option Value} {h : Heap} {fa : Addr} {st : Stmt} {j : Nat} {sp : Sp} (X : K.In h) (G : h.Ns mainGlobals mg) (hfa : mg "law" = some (.ref fa)) (d : DefF K "law" st) (hd : (defArgs st).defaults = []) (hb : ∀ (kV doc pm : Value) (an : Option Addr) (cdv ct v : Value), bindArgs (PySem.W.fnOf "law" "law" (defArgs st) (defBody st) (defScope st) .none kV doc pm an cdv ct) ⟨[v], []⟩ = pure [(("script" : Str), v)])
    (ok : ∀ (base : Heap), K.In base → base.Ns mainGlobals mg → (base.get? sysModules).isSome = true → ∀ f fd, Fun K "law" "law" st f fd → FnG P w K mg base j f fd ["script"] sp) :
    ∃ fd : FuncData, (∀ (s : Shared) (u : Value), BindsTo s fd ⟨[u], []⟩ [("script", u)]) ∧ ∀ base : Heap, K.In base → base.Ns mainGlobals mg → (base.get? sysModules).isSome = true → FnG P w K mg base j fa fd ["script"] sp := by
  obtain ⟨f, oc, od, an, sl, kV, dc, pm, cd, ct, a, l, c, k⟩ := d
  have e := hfa.symm.trans (PySem.W.mg_of X G a)
  cases e
  exact ⟨_, fun s u => .of_eq (hb _ _ _ _ _ _ _), fun base b1 b2 b3 => ok base b1 b2 b3 fa _ (fun_mk (st := st) l c k)⟩
/-! ## a text against a dict -/
theorem dict_eq_declines_str (l : Addr) (o : Obj) (b : Str) (u : Tok) :
    Meets (Builtin.«dict.__eq__» ⟨[.ref l, .str b u], []⟩) (fun _ R s => (s.heap.get? l = some o ∧ o.cls = .type "dict") ∧ R (.ok (.ret .notImplemented)) s) :=
  .of_wp fun prog w A R s h => by
    obtain ⟨⟨hl, hc⟩, h⟩ := h
    show wpAny _ _ (Builtin.Dict.dictSlotArgs "__eq__" ⟨[.ref l, .str b u], []⟩ >>= _) _ _ s
    refine wpAny_bind ?_
    unfold Builtin.Dict.dictSlotArgs
    refine wpAny_bind (wpAny_notOrdered_dict (show s.TypeIs (.ref l) "dict" from ⟨o, hl, hc⟩) ?_)
    show wpAny _ _ (pure (Value.ref l, Value.str b u)) _ _ s
    refine wpAny_pure ?_
    refine wpAny_bind (wpAny_isInstance (T := "str") (typeIs_str s b u) PySem.F.sub_str_dict ?_)
    simp only [Bool.not_false, if_true]
    wp_walk
    exact ⟨_, rfl, h⟩
theorem str_eq_declines_obj (b : Str) (u : Tok) (l : Addr) (o : Obj) :
    Meets (Builtin.«str.__eq__» ⟨[.str b u, .ref l], []⟩) (fun _ R s => (s.heap.get? l = some o ∧ o.cls = .type "dict" ∧ ∃ es n, o.data = .dict es n) ∧ R (.ok (.ret .notImplemented)) s) :=
  .of_wp fun prog w A R s h => by
    obtain ⟨oc, od, dt, sl⟩ := o
    obtain ⟨hp, g, d, tk, os⟩ := s
    obtain ⟨⟨hl, hc, es, n, hd⟩, h⟩ := h
    simp only at hc hd
    subst hc hd
    have f1 := PySem.F.sub_dict_str
    wp_walk using PySem.AutoSeq1.wpAny_loadPart' hl, wpAny_load hl
    exact ⟨_, rfl, h⟩
section
variable {A : Around} {s : Shared}
theorem rc_str_dict {l : Addr} {o : Obj} (b : Str) (u : Tok) (hl : s.heap.get? l = some o) (hc : o.cls = .type "dict") (hd : ∃ es n, o.data = .dict es n) (hu : A.units < cLine) : SeqAt.RcAt A s (.str b u) (.ref l) false := fun prog w E Q h =>
  SeqAt.rc_eq_decline_or (k := false) (typeIs_str s b u) (show s.TypeIs (.ref l) "dict" from ⟨o, hl, hc⟩) (by decide) PySem.F.sub_dict_str PySem.F.slot_str_eq PySem.F.slot_dict_eq_refl
    (fun _ hq => call_meets PySem.F.slot_str_eq (typeIs_str s b u) PySem.F.entry_str_eq (PySem.F.args_str_eq_2 _ _) (str_eq_declines_obj b u l o) ⟨⟨hl, hc, hd⟩, hq⟩)
    (fun _ hq => call_meets PySem.F.slot_dict_eq_refl ⟨o, hl, hc⟩ PySem.F.entry_dict_eq (PySem.F.args_dict_eq_2 _ _) (dict_eq_declines_str l o b u) ⟨⟨hl, hc⟩, hq⟩)
    (fun _ hq => wpAny_of_eq (rfl : isSame (.str b u) (.ref l) = pure false) hq) (.inr hu) h
theorem eqAt_str_dict {l : Addr} {o : Obj} (b : Str) (u : Tok) (hl : s.heap.get? l = some o) (hc : o.cls = .type "dict") (hd : ∃ es n, o.data = .dict es n) (hu : A.units < cLine) : SeqAt.EqAt A s (.str b u) (.ref l) false := fun prog w E Q h => by
  unfold eqBool
  refine wpAny_holding ?_
  refine wpAny_ite_split (fun hab => absurd (eq_of_beq hab) nofun) (fun _ => ?_)
  exact wpAny_bind (rc_str_dict b u hl hc hd hu prog w E _ (wpAny_truthy_bool h))
end
/-- whether a text stands among texts, asked of any data -/
def strIn (x : PyData) (ss : List Str) : Bool := match x with
  | .str z => ss.any (· == z)
  | _ => false
def txtEq (b : Str) : PyData → Bool
  | .str z => b == z
  | _ => false
theorem eqAt_str {A : Around} {s : Shared} (b : Str) (u : Tok) {x : Value} {d : PyData} {as : List Addr} (r : Reads s.heap x d as) (hu : A.units < cLine) : SeqAt.EqAt A s (.str b u) x (txtEq b d) := by
  cases r with
  | none => exact SeqAt.EqAt.str_none b u
  | bool y => exact SeqAt.EqAt.str_bool b u y
  | int y v => exact SeqAt.EqAt.str_int b u y v
  | str y v => exact SeqAt.EqAt.str_str b u y v
  | list k1 k2 k3 k4 => exact SeqAt.EqAt.str_list b u ⟨_, k1, k2, _, k3⟩ hu
  | tuple k1 k2 k3 k4 => exact SeqAt.EqAt.str_tuple b u ⟨_, k1, k2, _, k3⟩ hu
  | dict k1 k2 k3 k4 k5 => exact eqAt_str_dict b u k1 k2 ⟨_, _, k3⟩ hu
/-! ## what is data with empty dicts only -/
mutual
def okD : PyData → Bool
  | .none | .bool _ | .int _ | .str _ => true
  | .list xs | .tuple xs => okDAll xs
  | .dict es => okKv es
def okDAll : List PyData → Bool
  | [] => true
  | x :: xs => okD x && okDAll xs
def okKv : List (PyData × PyData) → Bool
  | [] => true
  | (_, d) :: r => okD d && okKv r
end
theorem okDAll_iff : ∀ {xs : List PyData}, okDAll xs = true ↔ ∀ x ∈ xs, okD x = true
  | [] => by simp [okDAll]
  | x :: xs => by simp [okDAll, okDAll_iff (xs := xs)]
theorem sys_here {X : Cx} {pins : List (Addr × Obj)} {σ : L2.St} {H : Hp} {s : Shared} (hs : (X.base.get? sysModules).isSome = true) (I : Inv X pins σ H s) {a : Addr} {o : HO} (e : H a = some o) : a ≠ sysModules := by
  intro z
  subst z
  obtain ⟨ob, h3⟩ := Option.isSome_iff_exists.mp hs
  have := (I.bs _ _ h3).2
  rw [this] at e
  exact nomatch e
section
variable {X : Cx} {pins : List (Addr × Obj)} {σ : L2.St} {H : Hp} {s : Shared} {W : Wd}
mutual
theorem Dn.reads (hs : (X.base.get? sysModules).isSome = true) (I : Inv X pins σ H s) : ∀ (d : PyData) (v : V) (u : Value), Dn W X.K H v d → okD d = true → RelV v u → ∃ as, Reads s.heap u d as ∧ sysModules ∉ as
  | .none, _, _, h, _, r => by
    cases h
    cases r
    exact ⟨_, Reads.none, List.not_mem_nil⟩
  | .bool b, _, _, h, _, r => by
    cases h
    cases r
    exact ⟨_, Reads.bool b, List.not_mem_nil⟩
  | .int i, _, _, h, _, r => by
    cases h
    obtain ⟨t, rfl⟩ := r
    exact ⟨_, Reads.int i t, List.not_mem_nil⟩
  | .str x, _, _, h, _, r => by
    cases h
    obtain ⟨t, rfl⟩ := r
    exact ⟨_, Reads.str x t, List.not_mem_nil⟩
  | .list ds, _, _, h, k, r => by
    cases h with
    | lst hl ha =>
      cases r
      obtain ⟨its, rv, ⟨o, n, ho, hc, _, hd⟩, _⟩ := I.list hl.sq
      obtain ⟨as, hr, hn⟩ := DnAll.reads hs I ds _ its ha (by simpa [okD] using k) rv
      refine ⟨_, Reads.list ho hc hd hr, ?_⟩
      intro hm
      rcases List.mem_cons.mp hm with e | e
      · exact sys_here hs I hl.2 e.symm
      · exact hn e
  | .tuple ds, _, _, h, k, r => by
    cases h with
    | tup hl ha =>
      cases r
      obtain ⟨its, rv, ⟨o, ho, hc, n, hd⟩, _⟩ := I.tuple hl.sq
      obtain ⟨as, hr, hn⟩ := DnAll.reads hs I ds _ its ha (by simpa [okD] using k) rv
      exact ⟨_, Reads.tuple ho hc hd hr, hn⟩
  | .dict es, _, _, h, k, r => by
    cases h with
    | dct n ha hk =>
      cases r
      obtain ⟨_, _, vs, rel, dd⟩ := dk_of I.hok ha
      obtain ⟨o, es', ep, h1, h2, h3, _, h4, _⟩ := dd
      obtain ⟨as, bs, q1, q2, n1, n2⟩ := DnKv.reads hs I es _ vs es'.toList hk (by simpa [okD] using k) rel h4
      exact ⟨_, Reads.dict h1 h2.1 h3 q1 q2, by
        intro hm
        rcases List.mem_append.mp hm with e | e
        · rcases List.mem_cons.mp e with e | e
          · exact sys_here hs I ha e.symm
          · exact n1 e
        · exact n2 e⟩
theorem DnAll.reads (hs : (X.base.get? sysModules).isSome = true) (I : Inv X pins σ H s) : ∀ (ds : List PyData) (vs : List V) (us : List Value), DnAll W X.K H vs ds → okDAll ds = true → Vals vs us → ∃ as, ReadsAll s.heap us ds as ∧ sysModules ∉ as
  | [], _, _, h, _, r => by
    cases h
    cases r
    exact ⟨_, ReadsAll.nil, List.not_mem_nil⟩
  | d :: ds, _, _, h, k, r => by
    have k2 : okD d = true ∧ okDAll ds = true := by simpa [okDAll] using k
    cases h with
    | cons h1 h2 =>
      cases r with
      | cons r1 r2 =>
        obtain ⟨as, q1, n1⟩ := Dn.reads hs I d _ _ h1 k2.1 r1
        obtain ⟨bs, q2, n2⟩ := DnAll.reads hs I ds _ _ h2 k2.2 r2
        exact ⟨_, ReadsAll.cons q1 q2, fun hm => (List.mem_append.mp hm).elim n1 n2⟩
theorem DnKv.reads (hs : (X.base.get? sysModules).isSome = true) (I : Inv X pins σ H s) : ∀ (es : List (PyData × PyData)) (kvs : List (Key × V)) (vs : List (Key × Value)) (l : List DictEntry), DnKv W X.K H kvs es → okKv es = true → KV kvs vs → PySem.Pairs (mixKind X.prog X.w) l vs →
    ∃ as bs, ReadsAll s.heap (l.map (·.key)) (es.map (·.1)) as ∧ ReadsAll s.heap (l.map (·.val)) (es.map (·.2)) bs ∧ sysModules ∉ as ∧ sysModules ∉ bs
  | [], _, _, _, h, _, r, p => by
    cases h
    cases r
    cases p
    exact ⟨[], [], .nil, .nil, List.not_mem_nil, List.not_mem_nil⟩
  | (_, d) :: es, _, _, _, h, k, r, p => by
    have k2 : okD d = true ∧ okKv es = true := by simpa [okKv] using k
    cases h with
    | @cons key v kvs d es h1 h2 =>
      cases r with
      | cons r1 r2 =>
        obtain ⟨e1, rv⟩ := r1
        cases p with
        | cons p1 p2 p3 =>
          obtain ⟨as, q1, n1⟩ := Dn.reads hs I d _ _ h1 k2.1 rv
          obtain ⟨as2, bs2, qa, qb, na, nb⟩ := DnKv.reads hs I es _ _ _ h2 k2.2 r2 p3
          have rk : ∀ u, keyIs key u = true → Reads s.heap u (keyD key) [] := fun u hu => by
            cases key with
            | inl i =>
              cases u <;> first | exact absurd hu Bool.false_ne_true | skip
              rename_i j t
              have e : j = i := by simpa [keyIs, Value.isInt] using hu
              subst e
              exact Reads.int _ t
            | inr x =>
              cases u <;> first | exact absurd hu Bool.false_ne_true | skip
              rename_i y t
              have e : y = x := by simpa [keyIs, Value.isStrOf] using hu
              subst e
              exact Reads.str _ t
          have rk2 := rk _ (by rw [← e1] at p1; exact p1)
          rw [← p2] at q1
          refine ⟨_, _, ReadsAll.cons rk2 qa, ReadsAll.cons q1 qb, fun hm => ?_, fun hm => (List.mem_append.mp hm).elim n1 nb⟩
          exact (List.mem_append.mp hm).elim (fun z => nomatch z) na
end
end
end Cr

set_option Elab.async false
set_option linter.all false
set_option maxRecDepth 100000
set_option maxHeartbeats 4000000
namespace Cr
open PySem PySem.Spec PyProof.Rows L2
/-! ## x in a tuple of texts, for any data x -/
theorem okD_strs (ss : List Str) : okD (.tuple (ss.map .str)) = true := by
  show okDAll _ = true
  refine okDAll_iff.mpr fun x hx => ?_
  obtain ⟨z, _, rfl⟩ := List.mem_map.mp hx
  rfl
theorem strs_reads {h : Heap} : ∀ {ss : List Str} {its : List Value} {as : List Addr}, ReadsAll h its (ss.map .str) as → ∀ y ∈ its, ∃ b u, y = .str b u
  | [], _, _, r, y, hy => by
    cases r
    exact nomatch hy
  | s :: ss, _, _, r, y, hy => by
    cases r with
    | cons r1 r2 =>
      rcases List.mem_cons.mp hy with e | e
      · cases r1
        exact ⟨_, _, e⟩
      · exact strs_reads r2 y e
def valEq (d : PyData) : Value → Bool
  | .str b _ => txtEq b d
  | _ => false
theorem any_strs {h : Heap} {d : PyData} : ∀ {ss : List Str} {its : List Value} {as : List Addr}, ReadsAll h its (ss.map .str) as → its.any (valEq d) = strIn d ss
  | [], _, _, r => by
    cases r
    cases d <;> rfl
  | s :: ss, _, _, r => by
    cases r with
    | cons r1 r2 =>
      cases r1
      rw [List.any_cons, any_strs r2]
      cases d <;> rfl
section
variable {X : Cx} {W : Wd}
def rInS (W : Wd) (K : PySem.W.Frag) (neg : Bool) : R2 := fun x y H Q => ∃ d ss, Dn W K H x d ∧ okD d = true ∧ Dn W K H y (.tuple (ss.map .str)) ∧ Q (.bl (neg != strIn d ss)) H
theorem op_inSt (hs : (X.base.get? sysModules).isSome = true) (hu : X.A.units + 1 < cLine) : OpR X (compareOp .In) (rInS W X.K false) := by
  intro pins s σ H x y v u Q I rx ry h
  obtain ⟨d, ss, hd, kd, he, q⟩ := h
  obtain ⟨as, r1, _⟩ := Dn.reads hs I d x v hd kd rx
  obtain ⟨bs, r2, _⟩ := Dn.reads hs I _ y u he (okD_strs ss) ry
  cases r2 with
  | @tuple a o vs n _ bs k1 k2 k3 k4 =>
    refine SeqAt.in_tupleAt (valEq d) ⟨_, k1, k2, _, k3⟩ (fun y hy => ?_) ?_
    · obtain ⟨b, u, rfl⟩ := strs_reads k4 y (by simpa using hy)
      exact eqAt_str b u r1 hu
    · rw [← Array.any_toList, any_strs k4]
      exact ⟨.bl _, H, I, rfl, by simpa using q⟩
theorem op_notInSt (hs : (X.base.get? sysModules).isSome = true) (hu : X.A.units + 1 < cLine) : OpR X (compareOp .NotIn) (rInS W X.K true) := by
  intro pins s σ H x y v u Q I rx ry h
  obtain ⟨d, ss, hd, kd, he, q⟩ := h
  obtain ⟨as, r1, _⟩ := Dn.reads hs I d x v hd kd rx
  obtain ⟨bs, r2, _⟩ := Dn.reads hs I _ y u he (okD_strs ss) ry
  cases r2 with
  | @tuple a o vs n _ bs k1 k2 k3 k4 =>
    refine SeqAt.notIn_tupleAt (valEq d) ⟨_, k1, k2, _, k3⟩ (fun y hy => ?_) ?_
    · obtain ⟨b, u, rfl⟩ := strs_reads k4 y (by simpa using hy)
      exact eqAt_str b u r1 hu
    · rw [← Array.any_toList, any_strs k4]
      exact ⟨.bl _, H, I, rfl, by simpa using q⟩
end
section
variable {ι : Type} {F : ι → Cx} {P : Program} {w : World} {K : PySem.W.Frag} {mg : Str → Option Value} {base : Heap} {N : List Str} {k : Nat} {sc : Scope} {W : Wd} {env : List Sl}
theorem b_inSt (fm : Fam P w K mg base N k sc F) (hs : (base.get? sysModules).isSome = true) {d : PyData} {ss : List Str} (kd : okD d = true) : B1 F W K (compareOp .In) d (.tuple (ss.map .str)) (.bool (strIn d ss)) := by
  intro H vx vy ii nx ny Q q
  exact ⟨rInS W K false, fun z => by have := op_inSt (X := F z) (W := W) (by rw [fm.ba z]; exact hs) (by have := (fm.ro z).units; omega); rwa [fm.kk z] at this, d, ss, nx, kd, ny, by simpa using q _ H _ (Wx.refl W H) ii (Dn.dv (.bl _)) rfl⟩
theorem b_notInSt (fm : Fam P w K mg base N k sc F) (hs : (base.get? sysModules).isSome = true) {d : PyData} {ss : List Str} (kd : okD d = true) : B1 F W K (compareOp .NotIn) d (.tuple (ss.map .str)) (.bool (!strIn d ss)) := by
  intro H vx vy ii nx ny Q q
  exact ⟨rInS W K true, fun z => by have := op_notInSt (X := F z) (W := W) (by rw [fm.ba z]; exact hs) (by have := (fm.ro z).units; omega); rwa [fm.kk z] at this, d, ss, nx, kd, ny, by simpa using q _ H _ (Wx.refl W H) ii (Dn.dv (.bl _)) rfl⟩
/-! ## isinstance(x, T) for data x -/
def tyD : PyData → String
  | .none => "NoneType"
  | .bool _ => "bool"
  | .int _ => "int"
  | .str _ => "str"
  | .list _ => "list"
  | .tuple _ => "tuple"
  | .dict _ => "dict"
def isaD (T : String) (d : PyData) : Bool := tyD d == T || (T == "int" && tyD d == "bool")
theorem tyx_of {H : Hp} {v : V} {d : PyData} (h : Dn W K H v d) : TyX K H v (.type (tyD d)) := by
  cases h with
  | non => exact .base .non
  | bl b => exact .base (.bl b)
  | int i => exact .base (.int i)
  | str x => exact .base (.str x)
  | lst a r => exact .base (.lst a.2)
  | tup a r =>
    rcases a with a | a
    · exact .base (.tup a.2)
    · rcases a with c | ⟨o, its, n, l, c, _⟩
      · exact (rd_none c).elim
      · exact .kTuple l c
  | dct n a r => exact .base (.dK a)
def kitS (t T : String) : Option Bool := if (Value.type t == Value.type T) = true then some true else if PySem.W.kitMeta T = true then (fastBuiltinMro t).map (·.contains (.type T)) else none
theorem kit_is {K : PySem.W.Frag} {t T : String} : PySem.W.kitOne K (.type t) (.type T) = kitS t T := rfl
def KitT (T : String) : Prop := ∀ t ∈ ["NoneType", "bool", "int", "str", "list", "tuple", "dict"], kitS t T = some (t == T || (T == "int" && t == "bool"))
theorem KitT.of {K : PySem.W.Frag} {T : String} (h : KitT T) (d : PyData) : PySem.W.kitOne K (.type (tyD d)) (.type T) = some (isaD T d) := by
  rw [kit_is]
  exact h (tyD d) (by cases d <;> simp [tyD])
theorem kit_int : KitT "int" := by unfold KitT; decide +kernel
theorem kit_bool : KitT "bool" := by unfold KitT; decide +kernel
theorem kit_str : KitT "str" := by unfold KitT; decide +kernel
theorem kit_tuple : KitT "tuple" := by unfold KitT; decide +kernel
theorem kit_list : KitT "list" := by unfold KitT; decide +kernel
/-- isinstance(e, T) -/
theorem ev_isi (fm : Fam P w K mg base N k sc F) {e : Expr} {p p2 pos : Pos} {x : Str} {T : String} {d : PyData} (he : E1 F W K e env (.dat d)) (hm : mg "isinstance" = none) (hmT : mg x = none) (hT : KitT T) (hv : bootBuiltins x = some (.type T) := by decide +kernel)
    (hg : glB sc "isinstance" = true := by decide +kernel) (hgT : glB sc x = true := by decide +kernel) (hn : x ≠ "__name__" := by decide) (hdb : (x == ("__debug__" : Str)) = false := by decide)
    (st : ∀ i, starEach (e :: [.Name x p2]) (F i).env = (false, eval e (F i).env) :: starEach [.Name x p2] (F i).env := by intro _; rfl) (pl : ∀ i, (backTo pos (starEach [.Name x p2] (F i).env)).any (·.1) = false := by intro _; rfl) :
    E1 F W K (.Call (.Name "isinstance" p) [e, .Name x p2] [] pos) env (.dat (.bool (isaD T d))) := by
  intro σ H i sd Q q
  refine ⟨tCB (WC F (.builtin "isinstance")) (tCons (WE F e) (tCons (tC (.ty T)) tNil)), fun z => pe_callB (wc_call z) (gl_of (fm.es z) hg) (by rw [fm.mg z]; exact hm) (by decide +kernel) (pa_cons (we_pe z) (pa_cons (pe_bltn (gl_of (fm.es z) hgT) (by rw [fm.mg z]; exact hmT) hv rfl hn hdb) pa_nil (by rfl)) (st z)) (by decide) (by decide) (st z) (pl z), ?_⟩
  refine he σ H i sd _ fun v H1 r x1 i1 d1 h1 => ?_
  subst h1
  obtain ⟨u, z, n1⟩ := d1
  cases z
  exact ⟨rIsi K, fun z => by have := call_isi (X := F z); rwa [fm.kk z] at this, _, .ty T, _, .type T, _, rfl, .ty T, tyx_of n1, hT.of d, q _ H1 _ x1 i1 (Dn.dv (.bl _)) rfl⟩
/-- {} -/
theorem ev_dct0 (fm : Fam P w K mg base N k sc F) {pos : Pos} : E1 F W K (.Dict [] [] pos) env (.dat (.dict [])) := by
  intro σ H i sd Q q
  refine ⟨_, fun z => pe_dnewK, fun p hp => ?_⟩
  obtain ⟨np, xp, ip⟩ := W.new (o := .dK []) i hp
  exact q _ _ _ xp ip (Dn.dv (.dct np upd_same .nil)) rfl
/-- repr of data with empty dicts -/
def rRpO (W : Wd) (K : PySem.W.Frag) : List V → Hp → VK → Prop := fun xs H Q => ∃ v d, xs = [v] ∧ Dn W K H v d ∧ okD d = true ∧ d.showable = true ∧ d.shown.length ≤ sizeLine ∧ d.depth ≤ 60 ∧ Q (.str d.shown) H
theorem call_rpO {X : Cx} (hs : (X.base.get? sysModules).isSome = true) (hu : X.A.units + 64 < cLine) (hg : X.A.guards = some []) : CallR X (.builtin "repr") (rRpO W X.K) := by
  intro pins s σ H xs us Q I r h
  obtain ⟨v, d, rfl, dn, ok, sh, hz, hd, q⟩ := h
  obtain ⟨u, rfl, rv⟩ := vals1 r
  obtain ⟨as, rd, ns⟩ := Dn.reads hs I d v u dn ok rv
  have fin : ∀ (t : Tok) (n : Nat), EP X pins σ Q (.str d.shown t) { s with toks := n } := fun t n => ⟨.str _, H, I.tok _, ⟨t, rfl⟩, q⟩
  cases dn with
  | non =>
    cases rv
    exact PySem.P.repr_of_none (fin _ _)
  | bl b =>
    cases rv
    exact PySem.P.repr_of_bool (by cases b <;> exact fin _ _)
  | int i =>
    obtain ⟨t, rfl⟩ := rv
    exact PySem.P.repr_of_int (of_decide_eq_true (by simpa [PyData.showable] using sh)) (fin _ _)
  | str x =>
    obtain ⟨t, rfl⟩ := rv
    exact PySem.P.repr_of_str (fin _ _) (by simpa only [PyData.shown] using hz)
  | lst a b =>
    cases rv
    exact repr_of_reads' rd sh (fun _ => ns) hg (by omega) (fun _ _ z => z) (fun h' t n keep => ⟨.str _, H, I.kept keep, ⟨t, rfl⟩, q⟩) hz
  | tup a b =>
    cases rv
    exact repr_of_reads' rd sh (fun _ => ns) hg (by omega) (fun _ _ z => z) (fun h' t n keep => ⟨.str _, H, I.kept keep, ⟨t, rfl⟩, q⟩) hz
  | dct n a b =>
    cases rv
    exact repr_of_reads' rd sh (fun _ => ns) hg (by omega) (fun _ _ z => z) (fun h' t n keep => ⟨.str _, H, I.kept keep, ⟨t, rfl⟩, q⟩) hz
structure ShowsO (d : PyData) : Prop where
  ok : okD d = true
  sh : d.showable = true
  sz : d.shown.length ≤ sizeLine
  dp : d.depth ≤ 60
theorem c_reprO (fm : Fam P w K mg base N k sc F) (hs : (base.get? sysModules).isSome = true) {d : PyData} (s : ShowsO d) : C1 F W K (.builtin "repr") [d] (.str d.shown) := call1 (fun H vs dn => by
  cases dn with
  | cons a t =>
    cases t
    exact ⟨rRpO W K, fun i => by have := call_rpO (X := F i) (W := W) (by rw [fm.ba i]; exact hs) (fm.ro i).units (fm.gu i); rwa [fm.kk i] at this, fun Q q => ⟨_, d, rfl, a, s.ok, s.sh, s.sz, s.dp, q⟩⟩) fun H => .str _
theorem e_reprO (fm : Fam P w K mg base N k sc F) (hs : (base.get? sysModules).isSome = true) {e : Expr} {p pos : Pos} {d : PyData} (sh : ShowsO d) (ha : A1 F W K [e] env [d]) (hm : mg "repr" = none) (hg : glB sc "repr" = true := by decide +kernel)
    (st : ∀ i, starEach (e :: []) (F i).env = (false, eval e (F i).env) :: starEach [] (F i).env := by intro _; rfl) : E1 F W K (.Call (.Name "repr" p) [e] [] pos) env (.dat (.str d.shown)) :=
  ev_callB fm ha hm (c_reprO fm hs sh) (hg := hg) (st := st)
/-- d[key] of a written dict -/
theorem ev_ixKD (fm : Fam P w K mg base N k sc F) {a b : Expr} {pos : Pos} {p : Addr} {z : Str} {v : V} {d : PyData} (ha : E1 F W K a env (.raw (.ref p))) (hb : E1 F W K b env (.dat (.str z))) (kd : KDct K w p z v) (dc : DC K v d) (hs : PlainIx b := by exact fun _ _ => rfl) :
    E1 F W K (.Subscript a b pos) env (.dat d) := by
  intro σ H i sd Q q
  refine ⟨tOp (WX F) (WE F a) (WE F b), fun z => pe_ix (wx_ix z) (we_pe z) (we_pe z) hs, ?_⟩
  refine ha σ H i sd _ fun v1 H1 r1 x1 i1 d1 h1 => ?_
  subst h1
  refine hb σ H1 i1 (sd.mono x1) _ fun v2 H2 r2 x2 i2 d2 h2 => ?_
  subst h2
  cases (show some v1 = some (V.ref p) from d1)
  obtain ⟨u2, z2, n2⟩ := d2
  cases z2
  cases n2
  exact ⟨rIxD K w, fun i => by have := ix_kdict (X := F i); rwa [fm.kk i, fm.wo i] at this, p, z, v, rfl, rfl, kd, q _ H2 _ (x1.trans x2) i2 (dc W H2).dv rfl⟩
/-- a module constant that is no data -/
theorem ev_globR (fm : Fam P w K mg base N k sc F) {x : Str} {pos : Pos} {v : V} {u : Value} (hm : mg x = some u) (r : RelV v u) (hg : glB sc x = true := by decide +kernel) (hd : (x == ("__debug__" : Str)) = false := by decide) : E1 F W K (.Name x pos) env (.raw v) := by
  intro σ H i sd Q q
  exact ⟨tC v, fun i => pe_glob (gl_of (fm.es i) hg) (by rw [fm.mg i]; exact hm) r hd, q v H (.raw v) (Wx.refl W H) i raw_dv rfl⟩
end
def strsB : List Value → List Str → Bool
  | [], [] => true
  | .str b _ :: vs, s :: ss => b == s && strsB vs ss
  | _, _ => false
theorem strsB_vals : ∀ {vs : List Value} {ss : List Str}, strsB vs ss = true → Vals (ss.map V.str) vs
  | [], [], _ => .nil
  | .str b t :: vs, s :: ss, h => by
    have h2 : b = s ∧ strsB vs ss = true := by simpa [strsB] using h
    exact .cons ⟨t, by rw [h2.1]⟩ (strsB_vals h2.2)
  | [], _ :: _, h => by simp [strsB] at h
theorem dc_tup {K : PySem.W.Frag} {a : Addr} {dd : Option Addr} {its : Array Value} {n : Nat} {sl : Array (Option Value)} {ss : List Str} (l : K.lookup a = some ⟨.type "tuple", dd, .seq its n, sl⟩) (h : strsB its.toList ss = true) (z : its.size ≤ 1000) : DC K (.ref a) (.tuple (ss.map .str)) := by
  intro W H
  refine .tup (xs := ss.map V.str) (.inr (.inr ⟨_, its, n, l, rfl, rfl, sz_small (by omega), strsB_vals h⟩)) ?_
  clear h
  induction ss with
  | nil => exact .nil
  | cons s ss ih => exact .cons (.str s) ih
end Cr

set_option Elab.async false
set_option linter.all false
set_option maxRecDepth 100000
set_option maxHeartbeats 4000000
namespace Cr
open PySem PySem.Spec PyProof.Rows L2
/-! ## t[::-1] of a tuple -/
theorem fm_map {α β : Type} {f : α → Option β} {g : α → β} : ∀ {l : List α}, (∀ k ∈ l, f k = some (g k)) → l.filterMap f = l.map g
  | [], _ => rfl
  | x :: l, h => by
    rw [List.filterMap_cons, h x List.mem_cons_self, List.map_cons, fm_map fun k m => h k (List.mem_cons_of_mem _ m)]
theorem pick_back (xs : Array Value) : ((List.range xs.size).filterMap fun (k : Nat) => xs[((xs.size : Int) - 1 + (k : Int) * (-1)).toNat]?).toArray = xs.toList.reverse.toArray := by
  refine congrArg List.toArray ?_
  rw [fm_map (g := fun k => xs.toList.reverse.getD k .none) fun k hk => by
    have hk : k < xs.size := List.mem_range.mp hk
    have e1 : ((xs.size : Int) - 1 + (k : Int) * (-1)).toNat = xs.size - 1 - k := by omega
    rw [e1, List.getD_eq_getElem?_getD, List.getElem?_reverse (by rw [Array.length_toList]; exact hk), Array.length_toList, Array.getElem?_toList, Array.getElem?_eq_getElem (by omega)]
    rfl]
  refine List.ext_getElem (by simp) fun j h1 h2 => ?_
  simp only [List.getElem_map, List.getElem_range]
  rw [List.getD_eq_getElem?_getD, List.getElem?_eq_getElem (by simpa using h2)]
  rfl
section
variable {prog : Program} {w : World} {A : Around} {E : Value → Shared → Prop} {s : Shared}
theorem sliceBack {sl : Addr} {n : Nat} {t : Tok} {Q : Int × Int × Nat → Shared → Prop} (hs : s.heap.IsSliceOf sl .none .none (.int (-1) t)) (h : Q ((n : Int) - 1, -1, n) s) : wpAny (model prog w) A (Builtin.Slice.sliceApplied (.ref sl) (pure (n : Int))) Q E s := by
  obtain ⟨os, hos, hcs, hds⟩ := id hs
  unfold Builtin.Slice.sliceApplied Builtin.Slice.sliceFields
  refine wpAny_bind (wpAny_bind (wpAny_field hos hds (x := .none) rfl (wpAny_bind (wpAny_field hos hds (x := .none) rfl (wpAny_bind (wpAny_field hos hds (x := .int (-1) t) rfl (wpAny_pure ?_)))))))
  refine wpAny_bind (slicePart_int ?_)
  show wpAny _ _ (if ((-1 : Int) == 0) = true then _ else _) _ _ s
  rw [if_neg (by decide)]
  refine wpAny_bind (slicePart_none (wpAny_bind (slicePart_none (wpAny_bind (wpAny_pure ?_)))))
  show wpAny _ _ (match Builtin.Slice.sliceAdjust none none (-1) (n : Int) with | (lo, hi) => pure (lo, (-1 : Int), Builtin.Slice.slicePlaces lo hi (-1))) _ _ s
  have e : Builtin.Slice.sliceAdjust none none (-1) (n : Int) = ((n : Int) - 1, -1) := by
    unfold Builtin.Slice.sliceAdjust
    rfl
  rw [e]
  show wpAny _ _ (pure ((n : Int) - 1, (-1 : Int), Builtin.Slice.slicePlaces ((n : Int) - 1) (-1) (-1))) _ _ s
  have e2 : Builtin.Slice.slicePlaces ((n : Int) - 1) (-1) (-1) = n := by
    unfold Builtin.Slice.slicePlaces
    have h1 : ¬ ((-1 : Int) > 0) := by omega
    simp only [h1, if_false]
    have h2 : -(-1 : Int) = 1 := by decide
    rw [h2, Int.ediv_one]
    split <;> omega
  rw [e2]
  exact wpAny_pure h
theorem getItem_tuple_back {t sl : Addr} {items : Array Value} {tk : Tok} {Q : Value → Shared → Prop} (ht : IsTup s.heap t items) (hs : s.heap.IsSliceOf sl .none .none (.int (-1) tk))
    (h : Q (.ref s.heap.objs.size) { s with heap := s.heap.push { cls := .type "tuple", data := .seq items.toList.reverse.toArray } }) (hsz : items.size ≤ sizeLine) : wpAny (model prog w) A (getItem (.ref t) (.ref sl)) Q E s := by
  have htake : sizeOk (.seq items.toList.reverse.toArray) := by
    show items.toList.reverse.toArray.size ≤ sizeLine
    rw [List.size_toArray, List.length_reverse, Array.length_toList]
    exact hsz
  obtain ⟨os, hos, hcs, hds⟩ := id hs
  have hTs : s.TypeIs (.ref sl) "slice" := ⟨os, hos, hcs⟩
  unfold getItem
  try with_reducible refine wpAny_holding ?_
  first | refine wpAny_bind (wpAny_pure ?_) | skip
  refine wpAny_bind (wpAny_sequenceKey ht.typeIs (by decide) ?_)
  refine wpAny_bind (wpAny_callSpecial?_slot (name := Str.ofString "__getitem__") ht.typeIs PyProof.Rows.slot_tuple_getitem
    (wpAny_call_entry PyProof.Rows.slot_tuple_getitem ht.typeIs entry_tuple_getitem ?_ (args_tuple_getitem _ _)))
  show wpAny _ _ (Builtin.Tuple.tupleItemsOf (.ref t) >>= _) _ _ s
  refine wpAny_bind (tupleItemsOf_ ht ?_)
  refine wpAny_bind (wpAny_typeOf hTs ?_)
  rw [if_pos (by decide)]
  refine wpAny_bind (sliceBack hs ?_)
  show wpAny _ _ (if (((items.size : Int) - 1) == 0 && ((-1 : Int) == 1) && items.size == items.size) = true then _ else _) _ _ s
  rw [show ((-1 : Int) == 1) = false from by decide, Bool.and_false, Bool.false_and, if_neg Bool.false_ne_true, pick_back]
  first
    | exact wpAny_bind (m := Builtin.Tuple.tupleExact _) (wpAny_newObj_type (wpAny_pure ⟨_, rfl, wpAny_pure h⟩) htake)
    | exact wpAny_bind (m := Builtin.Tuple.tupleExact _) (wpAny_newObj_type (wpAny_bind (wpAny_pure (wpAny_pure ⟨_, rfl, wpAny_pure h⟩))) htake)
    | exact wpAny_bind (wpAny_bind (m := Builtin.Tuple.tupleExact _) (wpAny_newObj_type (wpAny_pure (wpAny_pure ⟨_, rfl, wpAny_pure h⟩)) htake))
    | exact wpAny_bind (wpAny_bind (m := Builtin.Tuple.tupleExact _) (wpAny_newObj_type (wpAny_pure ⟨_, rfl, wpAny_pure h⟩) htake))
end
section
variable {X : Cx}
def tRevT (K : PySem.W.Frag) (te : TE) : TE := fun σ H Q => te σ H fun x H1 => ∃ a xs, x = .ref a ∧ SqT K H1 a xs ∧ ∀ p, H1 p = none → Q (.ref p) (upd H1 p (.tup xs.reverse))
theorem pe_revT {e : Expr} {te : TE} {k : Nat} {p1 p2 p3 pos : Pos} (he : PE X e te) : PE X (.Subscript e (.Slice none none (some (.UnaryOp .USub (.Constant (.int 1) k p1) p2)) p3) pos) (tRevT X.K te) := by
  refine ⟨fun pins s σ H Q I h => ?_⟩
  refine Subscript_ (thn (he.run pins s σ H _ I h) fun v s1 ⟨x, H1, I1, r1, q1⟩ => ?_)
  obtain ⟨a, xs, ex, hx, q⟩ := q1
  subst ex
  cases r1
  have hst : PO X (some (.UnaryOp .USub (.Constant (.int 1) k p1) p2)) (tPart (tUn (rU fun i => .int (-i)) (tC (.int 1)))) := po_some (pe_un un_neg pe_int)
  refine wpAny_Slice (thn (po_none.run pins s1 σ H1 (fun o H2 => o = none ∧ H2 = H1) I1 ⟨rfl, rfl⟩) fun vl s2 ⟨l, H2, I2, pl, el, e2⟩ => ?_)
  subst el e2
  refine thn (po_none.run pins s2 σ H2 (fun o H3 => o = none ∧ H3 = H2) I2 ⟨rfl, rfl⟩) fun vu s3 ⟨u, H3, I3, pu, eu, e3⟩ => ?_
  subst eu e3
  refine thn (hst.run pins s3 σ H3 (fun o H4 => o = some (-1) ∧ H4 = H3) I3 ⟨1, rfl, -1, rfl, rfl, rfl⟩) fun vs s4 ⟨o, H4, I4, ps, eo, e4⟩ => ?_
  subst eo e4
  cases pl
  cases pu
  obtain ⟨tk, rfl⟩ : ∃ tk, vs = .int (-1) tk := by
    cases ps
    exact ⟨_, rfl⟩
  have I5 : L2.Inv X pins σ H4 { s4 with heap := s4.heap.push { cls := .type "slice", data := .fields #[.none, .none, .int (-1) tk] } } := I4.kept (t' := s4.toks) fun b ob q => Heap.get?_push_of_some _ q
  obtain ⟨its, r, ht, hz⟩ := I5.tuple hx
  have hlen := r.length
  show wpAny (model X.prog X.w) X.A (subscriptTail e (.Slice none none (some (.UnaryOp .USub (.Constant (.int 1) k p1) p2)) p3) (.ref a) (.ref s4.heap.objs.size)) (EP X pins σ Q) X.xe { s4 with heap := s4.heap.push { cls := .type "slice", data := .fields #[.none, .none, .int (-1) tk] } }
  refine tail_any (ops := [.ref a, .ref s4.heap.objs.size]) ht.typeIs (PyProof.Rows.slot_tuple_getitem.lookup) ?_ (by with_unfolding_all rfl)
  refine getItem_tuple_back ht (Heap.IsSliceOf.new _ .none .none (.int (-1) tk)) ?_ (by rw [List.size_toArray]; omega)
  refine ⟨.ref _, _, I5.laid (t' := s4.toks) (o := .tup xs.reverse) (fun b ob q => Heap.get?_push_of_some _ q) (Nat.le_refl _) ?_, rfl, q _ (I5.hok.fresh (Nat.le_refl _))⟩
  exact ⟨by rw [List.length_reverse]; exact hz, _, r.reverse, IsTup.new _ _⟩
end
section
variable {ι : Type} {F : ι → Cx} {P : Program} {w : World} {K : PySem.W.Frag} {mg : Str → Option Value} {base : Heap} {N : List Str} {k : Nat} {sc : Scope} {W : Wd} {env : List Sl}
theorem ev_revT (fm : Fam P w K mg base N k sc F) {e : Expr} {j : Nat} {p1 p2 p3 pos : Pos} {ds : List PyData} (he : E1 F W K e env (.dat (.tuple ds))) : E1 F W K (.Subscript e (.Slice none none (some (.UnaryOp .USub (.Constant (.int 1) j p1) p2)) p3) pos) env (.dat (.tuple ds.reverse)) := by
  intro σ H i sd Q q
  refine ⟨tRevT K (WE F e), fun z => by have := pe_revT (X := F z) (k := j) (p1 := p1) (p2 := p2) (p3 := p3) (pos := pos) (we_pe (F := F) (e := e) z); rwa [fm.kk z] at this, ?_⟩
  refine he σ H i sd _ fun v H1 r x1 i1 d1 h1 => ?_
  subst h1
  obtain ⟨u, z, n1⟩ := d1
  cases z
  cases n1 with
  | tup a r =>
    refine ⟨_, _, rfl, a.sq, fun p hp => ?_⟩
    obtain ⟨x2, i2, d2⟩ := new_tup i1 hp r.reverse
    exact q _ _ _ (x1.trans x2) i2 d2.dv rfl
/-! ## list(t), t * n -/
def rLs (K : PySem.W.Frag) : List V → Hp → VK → Prop := fun xs H Q => ∃ p ys, xs = [.ref p] ∧ (SqL K H p ys ∨ SqT K H p ys) ∧ ∀ l, H l = none → Q (.ref l) (upd H l (.lst ys))
theorem call_ls (fm : Fam P w K mg base N k sc F) (z : ι) : CallR (F z) (.type "list") (rLs K) := by
  have := call_list_of (X := F z)
  rwa [fm.kk z] at this
theorem c_listT (fm : Fam P w K mg base N k sc F) {ds : List PyData} : C1 F W K (.type "list") [.tuple ds] (.list ds) := by
  intro H vs ii dn Q q
  cases dn with
  | cons a t =>
    cases t
    cases a with
    | tup a r =>
      refine ⟨rLs K, call_ls fm, _, _, rfl, .inr a.sq, fun l hl => ?_⟩
      obtain ⟨x2, i2, d2⟩ := new_lst ii hl r
      exact q _ _ _ x2 i2 d2.dv rfl
theorem c_listL (fm : Fam P w K mg base N k sc F) {ds : List PyData} : C1 F W K (.type "list") [.list ds] (.list ds) := by
  intro H vs ii dn Q q
  cases dn with
  | cons a t =>
    cases t
    cases a with
    | lst a r =>
      refine ⟨rLs K, call_ls fm, _, _, rfl, .inl a.sq, fun l hl => ?_⟩
      obtain ⟨x2, i2, d2⟩ := new_lst ii hl r
      exact q _ _ _ x2 i2 d2.dv rfl
theorem e_listT (fm : Fam P w K mg base N k sc F) {e : Expr} {p pos : Pos} {ds : List PyData} (ha : A1 F W K [e] env [.tuple ds]) (hm : mg "list" = none) (hg : glB sc "list" = true := by decide +kernel)
    (st : ∀ i, starEach (e :: []) (F i).env = (false, eval e (F i).env) :: starEach [] (F i).env := by intro _; rfl) : E1 F W K (.Call (.Name "list" p) [e] [] pos) env (.dat (.list ds)) :=
  ev_callTy fm ha hm (c_listT fm) (hg := hg) (st := st)
/-- t * n, 2 ≤ n -/
theorem b_repT (fm : Fam P w K mg base N k sc F) {ds : List PyData} {n : Int} (h0 : ds ≠ []) (h1 : 2 ≤ n) (h2 : n ≤ 1000) (hz : ds.length ≤ 1000) : B1 F W K (binaryOp .Mult) (.tuple ds) (.int n) (.tuple (List.replicate n.toNat ds).flatten) := by
  intro H vx vy ii nx ny Q q
  cases ny
  cases nx with
  | tup a ra =>
    refine ⟨rRepT K, fun z => by have := op_repT (X := F z); rwa [fm.kk z] at this, _, n, _, rfl, rfl, a.sq, fun e => ?_, h1, h2, by rw [ra.length]; exact hz, fun p hp => ?_⟩
    · subst e
      cases ra
      exact h0 rfl
    · obtain ⟨x2, i2, d2⟩ := new_tup ii hp (ra.rep n.toNat)
      exact q _ _ _ x2 i2 d2.dv rfl
/-- x not in a list of data -/
theorem b_notInL (fm : Fam P w K mg base N k sc F) {x : PyData} {ds : List PyData} (hx : Nice x 20) (hy : Nice (.list ds) 20) : B1 F W K (compareOp .NotIn) x (.list ds) (.bool (!ds.any fun z => PyData.eqv z x)) := by
  intro H vx vy ii nx ny Q q
  exact ⟨rNotInD K, fun z => by have := op_notInD (X := F z) (by have := (fm.ro z).un; omega); rwa [fm.kk z] at this, x, ds, nx.dp hx.nd, ny.dp hy.nd, hx.shaped, hy.shaped, q _ H _ (Wx.refl W H) ii (Dn.dv (.bl _)) rfl⟩
end
end Cr

set_option Elab.async false
set_option linter.all false
set_option maxRecDepth 100000
set_option maxHeartbeats 4000000
namespace Cr
open PySem PySem.Spec PyProof.Rows L2
section
variable {ι : Type} {F : ι → Cx} {P : Program} {w : World} {K : PySem.W.Frag} {mg : Str → Option Value} {base : Heap} {N : List Str} {k : Nat} {sc : Scope} {W : Wd} {env : List Sl}
theorem ev_and2 {a b : Expr} {pos : Pos} {c d : Bool} (ha : E1 F W K a env (.dat (.bool c))) (hb : c = true → E1 F W K b env (.dat (.bool d))) : E1 F W K (.BoolOp .And [a, b] pos) env (.dat (.bool (c && d))) :=
  ev_and ha (fun h => ev_one ((hb h).imp fun r e => by rw [e, h]; rfl)) fun h => by rw [h]; rfl
theorem ev_or2 {a b : Expr} {pos : Pos} {c d : Bool} (ha : E1 F W K a env (.dat (.bool c))) (hb : c = false → E1 F W K b env (.dat (.bool d))) : E1 F W K (.BoolOp .Or [a, b] pos) env (.dat (.bool (c || d))) :=
  ev_or ha (fun h => ev_one ((hb h).imp fun r e => by rw [e, h]; rfl)) fun h => by rw [h]; rfl
theorem ev_and3 {a b x : Expr} {pos : Pos} {c d e : Bool} (ha : E1 F W K a env (.dat (.bool c))) (hb : c = true → E1 F W K b env (.dat (.bool d))) (hx : c = true → d = true → E1 F W K x env (.dat (.bool e))) : E1 F W K (.BoolOp .And [a, b, x] pos) env (.dat (.bool (c && (d && e)))) :=
  ev_and ha (fun h => (ev_and2 (hb h) (hx h)).imp fun r z => by rw [z, h]; rfl) fun h => by rw [h]; rfl
theorem et_or3 {a b x : Expr} {pos : Pos} {c d e : Bool} (ha : T1 F W K a env c) (hb : c = false → T1 F W K b env d) (hx : c = false → d = false → T1 F W K x env e) : T1 F W K (.BoolOp .Or [a, b, x] pos) env (c || (d || e)) :=
  et_w (ew_or ha (fun z => ew_or (hb z.symm) (fun y => ew_or1 ((hx z.symm y.symm).imp fun r q => by rw [← z, ← y, q]; rfl)) fun y => by rw [← z, ← y]; rfl) fun z => by rw [← z]; rfl)
theorem et_or4 {a b x y : Expr} {pos : Pos} {c d e f : Bool} (ha : T1 F W K a env c) (hb : c = false → T1 F W K b env d) (hx : c = false → d = false → T1 F W K x env e) (hy : c = false → d = false → e = false → T1 F W K y env f) : T1 F W K (.BoolOp .Or [a, b, x, y] pos) env (c || (d || (e || f))) :=
  et_w (ew_or ha (fun z => ew_or (hb z.symm) (fun u => ew_or (hx z.symm u.symm) (fun v => ew_or1 ((hy z.symm u.symm v.symm).imp fun r q => by rw [← z, ← u, ← v, q]; rfl)) fun v => by rw [← z, ← u, ← v]; rfl) fun u => by rw [← z, ← u]; rfl) fun z => by rw [← z]; rfl)
end
/-! ## how long repr's text is, for any data -/
theorem textFrom_le : ∀ (ts : List Str) (k : Nat) (acc : Str), (textFrom k acc ts).length ≤ acc.length + piled ts
  | [], k, acc => by
    show acc.length ≤ acc.length + piled []
    omega
  | t :: r, k, acc => by
    have ih := textFrom_le r (k + 1) (acc ++ (if k > 0 then ", " else "" : String) ++ t)
    have e : (((if k > 0 then ", " else "" : String) : Str)).length ≤ 2 := by split <;> decide +kernel
    rw [strLen_append, strLen_append] at ih
    rw [piled_cons]
    show (textFrom (k + 1) (acc ++ (if k > 0 then ", " else "" : String) ++ t) r).length ≤ _
    omega
theorem lst_text (ts : List Str) : (listText ts).length ≤ piled ts + 2 := by
  unfold listText
  have := textFrom_le ts 0 "["
  have e1 : ((("[" : String) : Str)).length = 1 := rfl
  have e2 : ((("]" : String) : Str)).length = 1 := rfl
  rw [strLen_append]
  omega
theorem RP.list {ds : List PyData} {n : Nat} (h : RPs ds n) : RP (.list ds) (n + 2) := ⟨by simp only [PyData.showable]; exact h.sh, by simp only [PyData.shown]; have := lst_text (PyData.shownAll ds); have := h.sz; omega⟩
theorem RP.dict0 : RP (.dict []) 2 := ⟨by simp only [PyData.showable, PyData.showableKv], by simp only [PyData.shown, PyData.shownKv]; decide +kernel⟩
theorem RPs.all {n : Nat} : ∀ {ds : List PyData}, (∀ d ∈ ds, RP d n) → RPs ds (ds.length * (n + 2))
  | [], _ => ⟨by simp only [PyData.showableAll], by simp only [PyData.shownAll]; exact Nat.zero_le _⟩
  | d :: ds, h => by
    have a := h d List.mem_cons_self
    have t := RPs.all (ds := ds) fun x hx => h x (List.mem_cons_of_mem _ hx)
    have c := RPs.cons a t
    refine ⟨c.sh, Nat.le_trans c.sz ?_⟩
    rw [List.length_cons, Nat.succ_mul]
    omega
theorem depthAll_le {n : Nat} : ∀ {ds : List PyData}, (∀ d ∈ ds, d.depth ≤ n) → PyData.depthAll ds ≤ n
  | [], _ => by simp only [PyData.depthAll]; omega
  | d :: ds, h => by
    simp only [PyData.depthAll]
    exact Nat.max_le.mpr ⟨h d List.mem_cons_self, depthAll_le fun x hx => h x (List.mem_cons_of_mem _ hx)⟩
/-- a small piece of data -/
structure At (d : PyData) : Prop where
  ok : okD d = true
  rp : RP d 200
  dp : d.depth ≤ 3
  st : ∀ z, d = .str z → PyData.strOk z = true
/-- data that can be shown, and five small pieces where it is a tuple of five -/
structure Th (d : PyData) : Prop where
  sh : ShowsO d
  at_ : ∀ ds, d = .tuple ds → ds.length = 5 → ∀ x ∈ ds, At x
theorem At.th {d : PyData} (h : At d) (n : ∀ ds, d = .tuple ds → ds.length ≠ 5) : Th d := ⟨⟨h.ok, h.rp.sh, Nat.le_trans h.rp.sz (sz_small (by decide)), Nat.le_trans h.dp (by decide)⟩, fun ds e l => absurd l (n ds e)⟩
theorem th_tup {ds : List PyData} (h : ∀ x ∈ ds, At x) (l : ds.length ≤ 30) : Th (.tuple ds) := by
  have r := RP.tuple (RPs.all (n := 200) fun d hd => (h d hd).rp)
  refine ⟨⟨okDAll_iff.mpr fun x hx => (h x hx).ok, r.sh, Nat.le_trans r.sz (sz_small ?_), ?_⟩, fun es e _ => ?_⟩
  · have : ds.length * 202 ≤ 30 * 202 := Nat.mul_le_mul_right _ l
    omega
  · simp only [PyData.depth]
    have := depthAll_le (n := 3) fun d hd => (h d hd).dp
    omega
  · cases e
    exact h
theorem th_lst {ds : List PyData} (h : ∀ x ∈ ds, At x) (l : ds.length ≤ 30) : Th (.list ds) := by
  have r := RP.list (RPs.all (n := 200) fun d hd => (h d hd).rp)
  refine ⟨⟨okDAll_iff.mpr fun x hx => (h x hx).ok, r.sh, Nat.le_trans r.sz (sz_small ?_), ?_⟩, fun es e _ => nomatch e⟩
  · have : ds.length * 202 ≤ 30 * 202 := Nat.mul_le_mul_right _ l
    omega
  · simp only [PyData.depth]
    have := depthAll_le (n := 3) fun d hd => (h d hd).dp
    omega
theorem th_one {ds : List PyData} (h : ∀ x ∈ ds, At x) (l : ds.length ≤ 30) : Th (.tuple [.tuple ds]) := by
  have r1 := RP.tuple (RPs.all (n := 200) fun d hd => (h d hd).rp)
  have r := RP.tuple (RPs.cons r1 .nil)
  have hl : ds.length * 202 ≤ 30 * 202 := Nat.mul_le_mul_right _ l
  have ok : okD (.tuple ds) = true := okDAll_iff.mpr fun x hx => (h x hx).ok
  refine ⟨⟨okDAll_iff.mpr fun x hx => ?_, r.sh, Nat.le_trans r.sz (sz_small (by omega)), ?_⟩, fun es e q => ?_⟩
  · rw [List.mem_singleton.mp hx]
    exact ok
  · simp only [PyData.depth, PyData.depthAll]
    have := depthAll_le (n := 3) fun d hd => (h d hd).dp
    omega
  · cases e
    exact absurd q (by simp)
theorem at_none : At .none := ⟨rfl, RP.none.up (by decide), by simp only [PyData.depth]; omega, fun _ e => nomatch e⟩
theorem at_bool (b : Bool) : At (.bool b) := ⟨rfl, RP.bool.up (by decide), by simp only [PyData.depth]; omega, fun _ e => nomatch e⟩
theorem at_int {i : Int} (h : i.natAbs < 2 ^ 100) : At (.int i) := ⟨rfl, (RP.int h).up (by decide), by simp only [PyData.depth]; omega, fun _ e => nomatch e⟩
theorem at_str {x : Str} (h : PyData.strOk x = true) (l : x.length ≤ 19) : At (.str x) := ⟨rfl, (RP.str h).up (by omega), by simp only [PyData.depth]; omega, fun _ e => by cases e; exact h⟩
theorem at_dict0 : At (.dict []) := ⟨rfl, RP.dict0.up (by decide), by simp [PyData.depth, PyData.depthKv], fun _ e => nomatch e⟩
theorem at_list0 : At (.list []) := ⟨rfl, (RP.list .nil).up (by decide), by simp only [PyData.depth, PyData.depthAll]; omega, fun _ e => nomatch e⟩
theorem at_one : At (.tuple [.int 1]) := ⟨rfl, (RP.tuple (.cons (RP.int (by decide)) .nil)).up (by decide), by simp only [PyData.depth, PyData.depthAll]; omega, fun _ e => nomatch e⟩
theorem cutD_mem {ds : List PyData} {lo hi : Option Int} {x : PyData} (h : x ∈ cutD ds lo hi) : x ∈ ds := List.mem_of_mem_drop (List.mem_of_mem_take h)
theorem cutD_len {ds : List PyData} {lo hi : Option Int} : (cutD ds lo hi).length ≤ ds.length := by
  unfold cutD
  rw [List.length_take, List.length_drop]
  omega
end Cr

set_option Elab.async false
set_option linter.all false
set_option maxRecDepth 100000
set_option maxHeartbeats 4000000
namespace Cr
open PySem PySem.Spec PyProof.Rows L2
section
variable {ι : Type} {F : ι → Cx} {P : Program} {w : World} {K : PySem.W.Frag} {mg : Str → Option Value} {base : Heap} {N : List Str} {k : Nat} {sc : Scope} {W : Wd} {env : List Sl}
theorem ev_drawN (fm : Fam P w K mg base N k sc F) {x : Str} {j : Nat} {ps : List Str} {Pre : List PyData → Prop} {Rn : List PyData → PyData → Prop} {q pos : Pos} {e : Expr} {es : List Expr} {p c : Addr} {ns : List Int} {Ra : List Sl → Prop} {R : PyData → Prop} (dw : Draws W p c ns) (o : Own P w K mg base x j ps (spD K Pre Rn)) (hj : j ≤ k)
    (ha : EvA F W K (e :: es) env Ra) (hr : ∀ rs, Ra rs → ∃ ds : List PyData, rs = .raw (.ref p) :: ds.map .dat ∧ Pre ds ∧ ∀ r, Rn ds r → R r)
    (hg : glB sc x = true := by decide +kernel) (hdb : (x == ("__debug__" : Str)) = false := by decide) (st : ∀ i, starEach (e :: es) (F i).env = (false, eval e (F i).env) :: starEach es (F i).env := by intro _; rfl) (pl : ∀ i, (backTo pos (starEach es (F i).env)).any (·.1) = false := by intro _; rfl) :
    Ev F W K (.Call (.Name x q) (e :: es) [] pos) env fun s => ∃ r, s = .dat r ∧ R r :=
  ev_call fm o hj ha (fun rs h vs H i sd Q E q => by
    obtain ⟨ds, rfl, hp, hR⟩ := hr rs h
    match vs, sd with
    | v :: us, ⟨hv, sd⟩ =>
      cases (show some v = some (V.ref p) from hv)
      exact ⟨W, p, c, ns, us, ds, rfl, dw, i, dn_of_sd sd, hp, fun r v H' hrn x i' dn => q v H' _ (fun a o n h => x a o (fun z => n (z ▸ dw.mp)) h) i' dn.dv ⟨r, rfl, hR r hrn⟩⟩) hg hdb st pl
theorem ev_tupN {es : List Expr} {k1 pos} {Rs : List Sl → Prop} {R : Sl → Prop} (h : EvA F W K es env Rs) (hr : ∀ rs, Rs rs → ∃ ds : List PyData, rs = ds.map .dat ∧ ds.length ≤ 1000000 ∧ R (.dat (.tuple ds))) : Ev F W K (.Tuple es k1 pos) env R := by
  intro σ H i sd Q q
  refine ⟨tTup (WA F es), fun z => pe_tup (wa_pa z), ?_⟩
  refine h σ H i sd _ fun vs H1 rs x1 i1 d1 h1 => ?_
  obtain ⟨ds, rfl, hz, hR⟩ := hr rs h1
  have dn := dn_of_sd d1
  refine ⟨by rw [dn.length]; exact sz_small (by omega), fun p hp => ?_⟩
  obtain ⟨x2, i2, d2⟩ := new_tup i1 hp dn
  exact q _ _ _ (x1.trans x2) i2 d2.dv hR
end
end Cr

set_option Elab.async false
set_option linter.all false
set_option maxRecDepth 100000
set_option maxHeartbeats 4000000
namespace Cr
open PySem PySem.Spec PyProof.Rows L2

/-! ## sorted(xs, key=f), f an own def from data to data -/
theorem DnAll.each {K : PySem.W.Frag} {W : Wd} {H : Hp} {h : Heap} : ∀ {ds : List PyData} {us : List Value} {as : List Addr}, ReadsAll h us ds as → PySem.W.EachIs (fun v d => ∃ as, Reads h v d as) us ds
  | [], _, _, r => by
    cases r
    exact .nil
  | _ :: _, _, _, r => by
    cases r with
    | cons a t => exact .cons ⟨_, a⟩ (DnAll.each (K := K) (W := W) (H := H) t)
theorem each_zip : ∀ {xs : List V} {ds : List PyData} {us : List Value}, Vals xs us → xs.length = ds.length → PySem.W.EachIs (fun v (p : V × PyData) => RelV p.1 v) us (xs.zip ds)
  | [], [], _, r, _ => by
    cases r
    exact .nil
  | x :: xs, d :: ds, _, r, l => by
    cases r with
    | cons a t => exact .cons a (each_zip t (by simpa using l))
  | [], _ :: _, _, _, l => absurd l (by simp)
  | _ :: _, [], _, _, l => absurd l (by simp)
theorem vals_each : ∀ {us : List Value} {ps : List (V × PyData)}, PySem.W.EachIs (fun v (p : V × PyData) => RelV p.1 v) us ps → Vals (ps.map (·.1)) us
  | _, _, .nil => .nil
  | _, _, .cons a t => .cons a (vals_each t)
theorem zip_dn {W : Wd} {K : PySem.W.Frag} {H : Hp} : ∀ {xs : List V} {ds : List PyData}, DnAll W K H xs ds → ∀ p ∈ xs.zip ds, Dn W K H p.1 p.2
  | _, _, .nil, p, hp => by simp at hp
  | _, _, .cons a t, p, hp => by
    rw [List.zip_cons_cons] at hp
    rcases List.mem_cons.mp hp with e | e
    · rw [e]
      exact a
    · exact zip_dn t p e
theorem dn_pairs {W : Wd} {K : PySem.W.Frag} {H : Hp} : ∀ {ps : List (V × PyData)}, (∀ p ∈ ps, Dn W K H p.1 p.2) → DnAll W K H (ps.map (·.1)) (ps.map (·.2))
  | [], _ => .nil
  | p :: ps, h => .cons (h p List.mem_cons_self) (dn_pairs fun q hq => h q (List.mem_cons_of_mem _ hq))
theorem noDict_map {key : PyData → PyData} : ∀ {ds : List PyData}, (∀ d ∈ ds, noDict (key d) = true) → noDictAll (ds.map key) = true
  | [], _ => rfl
  | d :: ds, h => by
    show (noDict (key d) && noDictAll (ds.map key)) = true
    rw [h d List.mem_cons_self, noDict_map fun x hx => h x (List.mem_cons_of_mem _ hx)]
    rfl
def rSortK (W : Wd) (K : PySem.W.Frag) (f : Addr) (Fn : List PyData → PyData → Prop) : List V → List V → Hp → VK → Prop := fun vs zs H Q => ∃ (l : Addr) (xs : List V) (ds : List PyData) (key : PyData → PyData), vs = [.ref l] ∧ zs = [.ref f] ∧ SqL K H l xs ∧ DnAll W K H xs ds ∧ W.I H ∧
  (∀ d ∈ ds, Fn [d] (key d)) ∧ PySem.W.AllAlike (ds.map key) ∧ PySem.W.Sortable (ds.map key) ∧ (∀ d ∈ ds, noDict (key d) = true ∧ (key d).depth ≤ 60) ∧
  ∀ (zs : List (V × PyData)) (p : Addr) (H1 : Hp), zs = (xs.zip ds).mergeSort (PySem.W.dataLe false fun q => key q.2) → Xt H H1 → H1 p = none → DnAll W K H1 (zs.map (·.1)) (zs.map (·.2)) → Q (.ref p) (upd H1 p (.lst (zs.map (·.1))))
section
variable {X : Cx} {k : Nat} {f : Addr} {fd : FuncData} {x : Str} {Fn : List PyData → PyData → Prop} {W : Wd}
/-- the key of one item, two builtins deep -/
theorem key_turn (FG : FnG X.prog X.w X.K X.mg X.base k f fd [x] (spF X.K Fn)) (hg : X.A.guards = some []) (hr : Room (k + 2) X.A) (hb : Binds X.K fd [x] []) {pins : List (Addr × Obj)} {σ : L2.St} {H : Hp} {s : Shared} (I : Inv X pins σ H s) {v : V} {u : Value} {d r : PyData} (iW : W.I H) (rv : RelV v u) (dn : Dn W X.K H v d) (hf : Fn [d] r) {E : Value → Shared → Prop} :
    wpAny (model X.prog X.w) X.A.in1.in1 (call (.ref f) [u]) (EP X pins σ fun y H' => Xt H H' ∧ Dn W X.K H' y r) E s := by
  apply wpAny_call
  refine codeAny_mono (FG.run X.A.in1.in1 X.stack s H ⟨[u], []⟩ [u] [v] (fun y H' => Xt H H' ∧ Dn W X.K H' y r) (fun _ _ _ => False) hg hr.in1.in1 I.env0.in1.in1 (by simpa using hb s [u] I.kIn rfl) (.cons rv .nil) ⟨W, [d], r, iW, .cons dn .nil, hf, fun y H' xt dy => ⟨xt, dy⟩⟩) ?_
  intro res s' hq
  match res, hq with
  | .ok (.ret u), hq => exact I.after hq
theorem FpOk.to {pins : List (Addr × Obj)} {H H' : Hp} {b : Addr} (h : FpOk X pins H b) (n : H' b = none) : FpOk X pins H' b := ⟨n, h.2⟩
theorem key_loop (FG : FnG X.prog X.w X.K X.mg X.base k f fd [x] (spF X.K Fn)) (hg : X.A.guards = some []) (hr : Room (k + 2) X.A) (hb : Binds X.K fd [x] []) {pins : List (Addr × Obj)} {σ : L2.St} {H : Hp} {s : Shared} (I : Inv X pins σ H s) (iW : W.I H)
    {xs : List V} {vs : List Value} {ds : List PyData} {key : PyData → PyData} {a kS : Addr} {e1 : Nat} {P : PySem.Fin → Shared → Prop} {E : Value → Shared → Prop} (rv : Vals xs vs) (dn : DnAll W X.K H xs ds) (hF : ∀ d ∈ ds, Fn [d] (key d)) (fa : FpOk X pins H a) (fk : FpOk X pins H kS)
    (nk : s.heap.get? kS = some (seqObj "list" #[] 0)) (na : s.heap.get? a = some (seqObj "list" #[] e1)) (hka : kS ≠ a) (hZ : vs.length ≤ sizeLine) (hal : PySem.W.AllAlike (ds.map key)) (hsk : PySem.W.Sortable (ds.map key)) (hno : ∀ d ∈ ds, noDict (key d) = true ∧ (key d).depth ≤ 60)
    (h : ∀ (H1 : Hp) (s' : Shared) (h' : Heap) (tk : Nat) (out : List Value) (c : Nat), Inv X pins σ H1 s' → Xt H H1 → FpOk X pins H1 a → FpOk X pins H1 kS → (∀ b o, b ≠ a → b ≠ kS → s'.heap.get? b = some o → h'.get? b = some o) → h'.get? a = some (seqObj "list" out.toArray c) → PySem.W.KeyedOut false (ds.map key) vs out → P (.done (.ret .none)) { s' with heap := h', toks := tk }) :
    wpAny (model X.prog X.w) X.A.in1.in1 (ksk_rest a (.ref f) false vs.toArray e1 (.ref kS)) P E s := by
  have lxd := dn.length
  have lxv := rv.length
  have un := hr.un
  unfold ksk_rest
  refine wpAny_bind (wpAny_rule ?_)
  rw [← Array.forIn_toList]
  show wpAny _ _ (forIn vs _ _ >>= _) _ _ _
  let J : Nat → Shared → Prop := fun i s' => ∃ (H1 : Hp) (kA : Array Value) (e : Nat) (ks : List V), Inv X pins σ H1 s' ∧ Xt H H1 ∧ FpOk X pins H1 a ∧ FpOk X pins H1 kS ∧ s'.heap.get? kS = some (seqObj "list" kA e) ∧ s'.heap.get? a = some (seqObj "list" #[] e1) ∧ Vals ks kA.toList ∧ DnAll W X.K H1 ks ((ds.map key).take i)
  refine wpAny_bind (ksk_fold J vs 0 s ⟨H, #[], 0, [], I, Xt.refl H, fa, fk, nk, na, .nil, by rw [List.take_zero]; exact .nil⟩ ?step ?done)
  case step =>
    rintro j u s' hu ⟨H1, kA, e, ks, I1, xt1, fa1, fk1, nk1, na1, rk, dk⟩
    rw [Nat.zero_add] at dk ⊢
    have jl : j < vs.length := (List.getElem?_eq_some_iff.mp hu).1
    have kl : kA.size = j := by
      have q1 : ks.length = kA.toList.length := rk.length
      have q2 := dk.length
      have q3 : kA.toList.length = kA.size := Array.length_toList
      rw [List.length_take, List.length_map] at q2
      omega
    obtain ⟨v, hv, ruv⟩ : ∃ v, xs[j]? = some v ∧ RelV v u := by
      have hx : j < xs.length := by omega
      refine ⟨xs[j], List.getElem?_eq_getElem hx, ?_⟩
      obtain ⟨w', h1, h2⟩ := rv.get (List.getElem?_eq_getElem hx)
      rw [hu] at h1
      cases h1
      exact h2
    obtain ⟨d, hd, dv⟩ := dn.getV hv
    have md : d ∈ ds := List.mem_of_getElem? hd
    have I2 := I1.pinned (fp := [kS, a]) (fun b hb => by
      rcases List.mem_cons.mp hb with q | q
      · rw [q]; exact fk1
      · rw [List.mem_singleton.mp q]; exact fa1) (fun b hb => by
      rcases List.mem_cons.mp hb with q | q
      · rw [q]; exact ⟨_, nk1, fun z c => nomatch c⟩
      · rw [List.mem_singleton.mp q]; exact ⟨_, na1, fun z c => nomatch c⟩)
    refine wpAny_bind (wpAny_attempt (wpAny_mono (key_turn FG hg hr hb I2 (E := fun _ _ => False) (W.mono _ _ iW xt1) ruv (dv.mono (xt1.wx W)) (hF d md)) (fun y s2 hy => ?_) fun _ _ c => c.elim))
    obtain ⟨vy, H2, I3, ry, xt2, dy⟩ := hy
    have pk := I3.pin _ (List.mem_append_right _ (List.mem_append_right _ (mem_pinsAt (b := kS) (fp := [kS, a]) (by simp) nk1)))
    have pa := I3.pin _ (List.mem_append_right _ (List.mem_append_right _ (mem_pinsAt (b := a) (fp := [kS, a]) (by simp) na1)))
    have I4 := I3.unpinned
    have fk2 : FpOk X pins H2 kS := FpOk.to fk1 pk.2.1
    have fa2 : FpOk X pins H2 a := FpOk.to fa1 pa.2.1
    have nk2 : s2.heap.get? kS = some (seqObj "list" kA e) := pk.1
    have na2 : s2.heap.get? a = some (seqObj "list" #[] e1) := pa.1
    have sb := Heap.SameBut.update s2.heap kS (Obj.mapSeq (·.push y))
    show wpAny _ _ (Builtin.List.listUpdate (.ref kS) (·.push y) >>= _) _ _ _
    refine wpAny_bind (listUpdate_at nk2 rfl ?_ (by omega) (by rw [Array.size_push]; omega))
    refine wpAny_pure ⟨rfl, H2, kA.push y, _, ks ++ [vy], I4.turnedL (t' := s2.toks) (ch := [kS]) (fun b o hb e => (sb.2 b (fun q => hb (by simp [q]))).trans e) (fun b hb => by rw [List.mem_singleton.mp hb]; exact fk2), xt1.trans xt2, fa2, fk2, get?_update_seq nk2 (·.push y), (sb.2 a hka.symm).trans na2, ?_, ?_⟩
    · have : (kA.push y).toList = kA.toList ++ [y] := by simp
      rw [this]
      exact rk.append (.cons ry .nil)
    · have hk : (ds.map key)[j]? = some (key d) := by rw [List.getElem?_map, hd]; rfl
      have : (ds.map key).take (j + 1) = (ds.map key).take j ++ [key d] := by rw [List.take_add_one, hk]; rfl
      rw [this]
      exact (DnAll.mono (xt2.wx W) dk).append (.cons dy .nil)
  case done =>
    rintro s' ⟨H1, kA, e, ks, I1, xt1, fa1, fk1, nk1, na1, rk, dk⟩
    have full : (ds.map key).take (0 + vs.length) = ds.map key := List.take_of_length_le (by rw [List.length_map]; omega)
    rw [full] at dk
    have kl : kA.size = vs.length := by
      have q1 : ks.length = kA.toList.length := rk.length
      have q2 := dk.length
      have q3 : kA.toList.length = kA.size := Array.length_toList
      rw [List.length_map] at q2
      omega
    have nd : noDictAll (ds.map key) = true := noDict_map fun d hd => (hno d hd).1
    obtain ⟨as, rd⟩ := Dp.readsAll I1 _ _ _ (dk.dp nd) rk
    have each := DnAll.each (K := X.K) (W := W) (H := H1) rd
    refine wpAny_bind (listItems_at nk1 rfl ?_)
    refine PySem.W.keyH_end (κ := PySem.W.dataKind s'.heap (ds.map key)) (h₁ := PySem.W.hideAll s'.heap [kS]) (fun b o _ e => PySem.W.of_hideAll _ e) (PySem.W.hideAll_none _ (by simp)) nk1 na1 hka (PySem.W.SortsAt.data each hal hsk fun d hd => ?_) kl hZ fun h3 tk3 c k3 n3 => h H1 s' h3 tk3 _ c I1 xt1 fa1 fk1 (fun b o n1 n2 e => k3 b o n1 (PySem.W.hideAll_get _ e (by simpa using n2))) n3 ⟨s'.heap, kA.toList, hal, rfl, each⟩
    obtain ⟨d0, h0, rfl⟩ := List.mem_map.mp hd
    have := (hno d0 h0).2
    show X.A.units + 1 + 1 + (key d0).depth < cLine
    omega
theorem zip_keys {key : PyData → PyData} : ∀ {xs : List V} {ds : List PyData}, xs.length = ds.length → (xs.zip ds).map (fun p => key p.2) = ds.map key
  | [], [], _ => rfl
  | _ :: _, _ :: _, l => by
    rw [List.zip_cons_cons, List.map_cons, List.map_cons, zip_keys (by simpa using l)]
  | [], _ :: _, l => absurd l (by simp)
  | _ :: _, [], l => absurd l (by simp)
theorem call_sortK (FG : FnG X.prog X.w X.K X.mg X.base k f fd [x] (spF X.K Fn)) (hg : X.A.guards = some []) (hr : Room (k + 2) X.A) (hb : Binds X.K fd [x] []) : CallRK X (.builtin "sorted") [Str.ofString "key"] (rSortK W X.K f Fn) := by
  intro pins s σ H vs zs us ws Q I r rz h
  obtain ⟨l, xs, ds, key, rfl, rfl, hl, dn, iW, hF, hal, hsk, hno, q⟩ := h
  obtain ⟨u1, rfl, r1⟩ := vals1 r
  obtain ⟨u2, rfl, r2⟩ := vals1 rz
  cases (show u1 = Value.ref l from r1)
  cases (show u2 = Value.ref f from r2)
  obtain ⟨its, rv, hli, hz⟩ := I.list hl
  have lxv := rv.length
  have lxd := dn.length
  have zl : its.length ≤ sizeLine := by omega
  have ho := PySem.W.copyHeap_at s.heap its
  show wpAny _ _ (call (.builtin "sorted") [.ref l] [(Str.ofString "key", .ref f)]) _ _ _
  refine PySem.W.sorted_of_sort hli.isList zl (ksk_s1 _ _) (fun _ => ksk_l1 _ _) fun E' => ?_
  rw [ksk_t1]
  have hsz : (PySem.W.copyHeap s.heap its).objs.size = s.heap.objs.size + 2 := by
    unfold PySem.W.copyHeap
    rw [size_push', Heap.size_update, size_push']
  obtain ⟨e1, ho1⟩ : ∃ e1, ((PySem.W.copyHeap s.heap its).update (s.heap.objs.size + 1) (Obj.mapSeq fun _ => (#[] : Array Value))).get? (s.heap.objs.size + 1) = some (seqObj "list" #[] e1) := ⟨_, get?_update_seq ho fun _ => #[]⟩
  have big : (((PySem.W.copyHeap s.heap its).update (s.heap.objs.size + 1) (Obj.mapSeq fun _ => (#[] : Array Value))).push (seqObj "tuple" its.toArray 0)).objs.size = s.heap.objs.size + 3 := by rw [size_push', Heap.size_update, hsz]
  unfold ksk_tree
  refine wpAny_bind (listItems_at (s := { s with heap := PySem.W.copyHeap s.heap its }) ho rfl ?_)
  refine wpAny_bind (listUpdate_at (s := { s with heap := PySem.W.copyHeap s.heap its }) ho rfl ?_ (by rw [List.size_toArray]; exact zl) (Nat.zero_le _))
  refine wpAny_bind (seqEpoch_at ho1 rfl ?_)
  refine wpAny_bind (wpAny_newTuple ?_ (by show its.length ≤ _; exact zl))
  refine wpAny_bind (wpAny_newList ?_ (Nat.zero_le _))
  refine wpAny_holding ?_
  have I2 : L2.Inv X pins σ H { s with heap := PySem.W.sortingHeap (PySem.W.copyHeap s.heap its) (s.heap.objs.size + 1) its, toks := s.toks } := I.kept (t' := s.toks) fun b o e => PySem.W.sortingHeap_old (Nat.ne_of_lt (Nat.lt_succ_of_lt (Heap.lt_size e))) (PySem.W.copyHeap_old e)
  have fa : FpOk X pins H (s.heap.objs.size + 1) := I.fpOk (Nat.le_succ _) (I.hok.fresh (Nat.le_succ _))
  have fk : FpOk X pins H (((PySem.W.copyHeap s.heap its).update (s.heap.objs.size + 1) (Obj.mapSeq fun _ => (#[] : Array Value))).push (seqObj "tuple" its.toArray 0)).objs.size := I.fpOk (by rw [big]; omega) (I.hok.fresh (by rw [big]; omega))
  refine key_loop FG hg hr hb I2 iW rv dn hF fa fk (Heap.get?_push_size _ rfl) (Heap.get?_push_of_some _ (Heap.get?_push_of_some _ ho1)) (fun z => absurd (big.symm.trans z) (by omega)) zl hal hsk hno ?_
  intro H1 s' h' tk out c I1 xt fa1 fk1 keep na ko
  have each := PySem.W.keyedOut_each (rev := false) (R := fun v (p : V × PyData) => RelV p.1 v) (bs := xs.zip ds) (fun p => key p.2) (by rw [zip_keys lxd]; exact ko) (each_zip rv lxd)
  have rvo := vals_each each
  have I3 : L2.Inv X pins σ H1 { s' with heap := h', toks := tk } := I1.turnedL (t' := tk) (ch := [s.heap.objs.size + 1, (((PySem.W.copyHeap s.heap its).update (s.heap.objs.size + 1) (Obj.mapSeq fun _ => (#[] : Array Value))).push (seqObj "tuple" its.toArray 0)).objs.size]) (fun b o n e => keep b o (fun z => n (by simp [z])) (fun z => n (by rw [z]; exact List.mem_cons_of_mem _ List.mem_cons_self)) e) (fun b hb => by
    rcases List.mem_cons.mp hb with z | z
    · rw [z]; exact fa1
    · rw [List.mem_singleton.mp z]; exact fk1)
  have lo : (((xs.zip ds).mergeSort (PySem.W.dataLe false fun q => key q.2)).map (·.1)).length ≤ sizeLine := by
    rw [List.length_map, (List.mergeSort_perm _ _).length_eq, List.length_zip]
    omega
  have I4 := I3.take (h' := h') (t' := tk) (it := s.heap.objs.size + 1) (o := .lst (((xs.zip ds).mergeSort (PySem.W.dataLe false fun q => key q.2)).map (·.1))) (fun b ob _ e => e) fa1 ⟨lo, out, c, rvo, na⟩
  refine ⟨rfl, .ref (s.heap.objs.size + 1), _, I4, rfl, q _ _ H1 rfl xt fa1.1 (dn_pairs fun p hp => ?_)⟩
  exact (zip_dn dn p ((List.mergeSort_perm _ _).mem_iff.mp hp)).mono (xt.wx W)
end
end Cr

set_option Elab.async false
set_option linter.all false
set_option maxRecDepth 100000
set_option maxHeartbeats 4000000
namespace Cr
open PySem PySem.Spec PyProof.Rows L2
section
variable {ι : Type} {F : ι → Cx} {P : Program} {w : World} {K : PySem.W.Frag} {mg : Str → Option Value} {base : Heap} {N : List Str} {k : Nat} {sc : Scope} {W : Wd} {env : List Sl}
/-- whether a stands no later than b by the key -/
def keyLe (key : PyData → PyData) (a b : PyData) : Bool := !PySem.W.dataLt (key b) (key a)
/-- sorted(e, key=g) of data -/
theorem ev_sortK (fm : Fam P w K mg base N k sc F) {g xp : Str} {j : Nat} {Fn : List PyData → PyData → Prop} {e : Expr} {p p2 p3 pos : Pos} {ds : List PyData} (key : PyData → PyData) (o : Own P w K mg base g j [xp] (spF K Fn)) (hj : j + 2 ≤ k) (he : E1 F W K e env (.dat (.list ds)))
    (hF : ∀ d ∈ ds, Fn [d] (key d)) (hal : PySem.W.AllAlike (ds.map key)) (hsk : PySem.W.Sortable (ds.map key)) (hno : ∀ d ∈ ds, noDict (key d) = true ∧ (key d).depth ≤ 60) (hm : mg "sorted" = none) (hg : glB sc "sorted" = true := by decide +kernel) (hgg : glB sc g = true := by decide +kernel) (hdb : (g == ("__debug__" : Str)) = false := by decide)
    (st : ∀ i, backTo pos (starEach [e] (F i).env) = (false, eval e (F i).env) :: backTo pos (starEach [] (F i).env) := by intro _; rfl) (pl : ∀ i, (backTo pos (starEach [e] (F i).env)).any (·.1) = false := by intro _; rfl) (st2 : ∀ i, starEach [e] (F i).env = (false, eval e (F i).env) :: starEach [] (F i).env := by intro _; rfl)
    (q1 : ∀ i, (backToKw pos (keywordEach [⟨some "key", .Name g p2, p3⟩] (F i).env)).all (·.1.isSome) = true := by intro _; rfl) (q2 : ∀ i, (backToKw pos (keywordEach [⟨some "key", .Name g p2, p3⟩] (F i).env)).any (·.1.isNone) = false := by intro _; rfl) (q3 : ∀ i, (backToKw pos (keywordEach [⟨some "key", .Name g p2, p3⟩] (F i).env)).filterMap (·.1) = [Str.ofString "key"] := by intro _; rfl) :
    Ev F W K (.Call (.Name "sorted" p) [e] [⟨some "key", .Name g p2, p3⟩] pos) env fun s => ∃ es, s = .dat (.list es) ∧ es.Perm ds ∧ es.Pairwise fun a b => keyLe key a b = true := by
  obtain ⟨f, fd, hmg, hk, hb, G⟩ := o.ex
  intro σ H i sd Q q
  refine ⟨tCKw (rSortK W K f Fn) (tCons (WE F e) tNil) (tCons (tC (.ref f)) tNil), fun z => ?_, ?_⟩
  · have GG : FnG (F z).prog (F z).w (F z).K (F z).mg (F z).base j f fd [xp] (spF (F z).K Fn) := by rw [fm.pr z, fm.wo z, fm.kk z, fm.mg z, fm.ba z]; exact G
    have C := call_sortK (W := W) GG (fm.gu z) ((fm.ro z).mono hj) (by rw [fm.kk z]; exact hb)
    rw [fm.kk z] at C
    exact pe_callBK C (gl_of (fm.es z) hg) (by rw [fm.mg z]; exact hm) (by decide +kernel) (pa_cons (we_pe z) pa_nil (st2 z)) (pk_cons (pe_glob (gl_of (fm.es z) hgg) (by rw [fm.mg z]; exact hmg) rfl hdb) pk_nil) (by decide) (by decide) (st z) (pl z) (q1 z) (q2 z) (q3 z)
  · refine he σ H i sd _ fun v H1 r x1 i1 d1 h1 => ?_
    subst h1
    obtain ⟨u, z, n1⟩ := d1
    cases z
    cases n1 with
    | @lst _ xs _ a ra =>
      refine ⟨_, xs, ds, key, rfl, rfl, a.sq, ra, i1, hF, hal, hsk, hno, fun zs p H2 ez xt hp dn => ?_⟩
      obtain ⟨x2, i2, d2⟩ := new_lst (W.mono _ _ i1 xt) hp dn
      refine q _ _ _ ((x1.trans (xt.wx W)).trans x2) i2 d2.dv ⟨_, rfl, ?_, ?_⟩
      · have e2 : (xs.zip ds).map Prod.snd = ds := List.map_snd_zip (Nat.le_of_eq ra.length.symm)
        have := (List.mergeSort_perm (xs.zip ds) (PySem.W.dataLe false fun q => key q.2)).map Prod.snd
        rw [e2] at this
        rw [ez]
        exact this
      · rw [ez, List.pairwise_map]
        exact PySem.W.sort_pairwise (le := PySem.W.dataLe false fun q : V × PyData => key q.2) (PySem.W.sortLe_total _ _ _) (xs.zip ds)
/-! ## x < y of lists, l.count(x), t.index(x) -/
def rLtD (K : PySem.W.Frag) : R2 := fun x y H Q => ∃ d e, Dp K H x d ∧ Dp K H y e ∧ PySem.W.alike d e = true ∧ d ≠ .none ∧ d.depth ≤ 60 ∧ Q (.bl (PySem.W.dataLt d e)) H
theorem op_ltD {X : Cx} (hu : X.A.units + 64 < cLine) : OpR X (compareOp .Lt) (rLtD X.K) := by
  intro pins s σ H x y v u Q I rx ry h
  obtain ⟨d, e, hd, he, al, nn, dd, q⟩ := h
  obtain ⟨as, r1⟩ := Dp.reads I d x v hd rx
  obtain ⟨bs, r2⟩ := Dp.reads I e y u he ry
  exact PySem.W.lt_data r1 r2 al nn (by have : min d.depth e.depth ≤ d.depth := Nat.min_le_left _ _; omega) ⟨.bl _, H, I, rfl, q⟩
theorem b_ltD (fm : Fam P w K mg base N k sc F) {x y : PyData} (nx : noDict x = true) (ny : noDict y = true) (al : PySem.W.alike x y = true) (nn : x ≠ .none) (dp : x.depth ≤ 60) : B1 F W K (compareOp .Lt) x y (.bool (PySem.W.dataLt x y)) := by
  intro H vx vy ii dx dy Q q
  exact ⟨rLtD K, fun z => by have := op_ltD (X := F z) (fm.ro z).units; rwa [fm.kk z] at this, x, y, dx.dp nx, dy.dp ny, al, nn, dp, q _ H _ (Wx.refl W H) ii (Dn.dv (.bl _)) rfl⟩
end
end Cr

set_option Elab.async false
set_option linter.all false
set_option maxRecDepth 100000
set_option maxHeartbeats 4000000
namespace Cr
open PySem PySem.Spec PyProof.Rows L2

/-! ## worlds that change underway -/
theorem exec_of_one {M : Model} {A : Around} {E : Value → Shared → Prop} {s : Shared} {st : Stmt} {env : Env} {Q : Flow → Shared → Prop} (h : wpAny M A (execs [st] env) Q E s) : wpAny M A (exec st env) Q E s := fun Γ p hΓ => by
  have h1 := h Γ p hΓ
  rw [execs_cons, Sem.wp_bind'] at h1
  refine Sem.wp_mono M Γ _ (fun f p' s' h' => ?_) (fun _ _ _ h' => h') _ _ h1
  cases f <;> exact h'
theorem pss_two {X : Cx} {st : Stmt} {rest : List Stmt} {t u : TS} (h1 : PSs X [st] t) (h2 : PSs X rest u) : PSs X (st :: rest) (tSeq t u) := by
  refine ⟨fun pins s σ H D I h => ?_⟩
  refine wpAny_execs_cons (exec_of_one (thn (h1.run pins s σ H { D with nx := u D } I h) fun f s1 q => ?_))
  cases f with
  | next =>
    obtain ⟨σ', H', I', q⟩ := q
    exact h2.run pins s1 σ' H' D I' q
  | ret v => exact q
  | brk => exact q
  | cont => exact q
section
variable {ι : Type} (F : ι → Cx) (W V : Wd) (K : PySem.W.Frag)
/-- a block that starts in the world W and whose ends are told in the world V -/
def Bd2 (ss : List Stmt) (env : List Sl) (P : Post) : Prop :=
  ∀ (σ : L2.St) (H : Hp) (D : Ends), W.I H → Sd W K H σ env → Good V K P D H → WS F ss D σ H
end
/-- V's reach is W's -/
def Wle (W V : Wd) : Prop := ∀ a, W.M a → V.M a
theorem Wle.wx {W V : Wd} {H H' : Hp} (l : Wle W V) (x : Wx W H H') : Wx V H H' := fun a o n h => x a o (fun m => n (l a m)) h
section
variable {ι : Type} {F : ι → Cx} {P : Program} {w : World} {K : PySem.W.Frag} {mg : Str → Option Value} {base : Heap} {N : List Str} {k : Nat} {sc : Scope} {W V : Wd} {env : List Sl}
/-- one statement in W, then on -/
theorem bd2_step {st : Stmt} {rest : List Stmt} {Po : Post} (Iv : List Sl → Prop) (l : Wle W V) (h : Bd F W K [st] env { nx := Iv, rt := fun _ => False }) (hr : ∀ env1, Iv env1 → Bd2 F W V K rest env1 Po) : Bd2 F W V K (st :: rest) env Po := by
  intro σ H D i sd g
  refine ⟨tSeq (WS F [st]) (WS F rest), fun z => pss_two (ws_ps z) (ws_ps z), ?_⟩
  exact h σ H { D with nx := WS F rest D } i sd ⟨fun σ' H' e x i' s' hI => hr e hI σ' H' D i' s' (g.mono (l.wx x)), fun _ _ _ _ _ _ c => c.elim, fun _ _ _ _ _ _ c => c.elim, fun _ _ _ _ _ _ c => c.elim⟩
theorem bd2_nil {Po : Post} (l : ∀ H, W.I H → V.I H) (m : ∀ a, V.M a → W.M a) (h : Po.nx env) : Bd2 F W V K [] env Po := by
  intro σ H D i sd g
  exact ⟨_, fun z => pss_nil, g.nx σ H env (Wx.refl V H) (l H i) (sd.to fun a _ => m a) h⟩
theorem bd2_ret {e : Expr} {pos : Pos} {rest : List Stmt} {R : Sl → Prop} {Po : Post} (l : ∀ H, W.I H → V.I H) (lm : Wle W V) (m : ∀ a, V.M a → W.M a) (he : Ev F W K e env R) (h : ∀ r, R r → Po.rt r) : Bd2 F W V K (.Return (some e) pos :: rest) env Po := by
  intro σ H D i sd g
  obtain ⟨t, ht, q⟩ := bd_ret (F := F) (W := W) (K := K) (pos := pos) (rest := rest) (Po := { nx := fun _ => False, rt := R }) he (fun r z => z) σ H D i sd ⟨fun _ _ _ _ _ _ c => c.elim, fun v H' r x i' d hr => g.rt v H' r (lm.wx x) (l H' i') (Dv.to (fun a _ => m a) d) (h r hr), fun _ _ _ _ _ _ c => c.elim, fun _ _ _ _ _ _ c => c.elim⟩
  exact ⟨t, ht, q⟩
/-- the world where p is a list that may change, of no known content -/
def Wd.opn (W : Wd) (p : Addr) : Wd where
  M a := W.M a ∨ a = p
  I H := W.I H ∧ H p ≠ none
  has H a i m := by
    rcases m with m | rfl
    · exact W.has H a i.1 m
    · exact i.2
  loc H H' i x := ⟨W.loc H H' i.1 fun a m => x a (Or.inl m), by rw [x p (Or.inr rfl)]; exact i.2⟩
theorem plus_opn {p : Addr} {o : HO} (H : Hp) (i : (W.plus p o).I H) : (W.opn p).I H := ⟨i.1, by rw [i.2]; exact fun c => nomatch c⟩
/-- e is a new list, nothing else knows it -/
def EvF (F : ι → Cx) (W : Wd) (K : PySem.W.Frag) (e : Expr) (env : List Sl) (R : List PyData → Prop) : Prop :=
  ∀ (σ : L2.St) (H : Hp), W.I H → Sd W K H σ env → ∀ Q : VK, (∀ p us ds H', Wx W H H' → W.I H' → ¬ W.M p → H p = none → H' p = some (.lst us) → DnAll (W.opn p) K H' us ds → R ds → Q (.ref p) H') → WE F e σ H Q
theorem evf_nil {pos : Pos} : EvF F W K (.List [] pos) env fun ds => ds = [] := by
  intro σ H i sd Q q
  refine ⟨tLst tNil, fun z => pe_lst pa_nil, ?_⟩
  refine ⟨Nat.zero_le _, fun p hp => ?_⟩
  obtain ⟨n, x2, i2⟩ := W.new (o := .lst []) i hp
  exact q p [] [] _ x2 i2 n hp upd_same .nil rfl
theorem bd_new (fm : Fam P w K mg base N k sc F) {x : Str} {e : Expr} {pos' pos : Pos} {rest : List Stmt} {R : List PyData → Prop} {Po : Post} (j : Nat) (hN : N[j]? = some x) (he : EvF F W K e env R) (hr : ∀ p us ds, ¬ W.M p → R ds → us.length = ds.length → Bd2 F (W.plus p (.lst us)) (W.opn p) K rest (env.set j (.ml p us ds)) Po)
    (hx : locB sc x = true := by decide +kernel) (hs : ∀ i, swapsWith e (some (.Name x pos')) pos.line (F i).env = pure false := by intro _; rfl)
    (hf : ∀ i, (F i).fn x = true ∨ (F i).env.scope.names.lookup x = some .local := by intro _; first | exact Or.inl rfl | exact Or.inr rfl) : Bd F W K (.Assign [.Name x pos'] e pos :: rest) env Po := by
  intro σ H D i sd g
  refine ⟨tSeq (tAsg (WE F e) (gName j)) (WS F rest), fun z => pss_cons (ps_set (by rw [fm.nn z]; exact fm.nd) (by rw [fm.nn z]; exact hN) (loc_of (fm.es z) hx) (we_pe z) (hs z) (hf z)) (ws_ps z), ?_⟩
  refine he σ H i sd _ fun p us ds H1 x1 i1 np hp hl dn hR => ?_
  have wx : Wx (W.plus p (.lst us)) H H1 := fun a o n h => x1 a o (fun m => n (Or.inl m)) h
  have sd1 : Sd (W.plus p (.lst us)) K H σ env := sd.to fun a ha m => by
    rcases m with m | rfl
    · exact m
    · exact absurd hp ha
  have dn1 : DnAll (W.plus p (.lst us)) K H1 us ds := DnAll.to (W := W.opn p) (W' := W.plus p (.lst us)) (fun _ _ m => m) dn
  refine hr p us ds np hR dn.length _ _ _ ⟨i1, hl⟩ (Sd.set (s := .ml p us ds) ⟨rfl, dn1⟩ j (sd1.mono wx)) ?_
  have back : ∀ {H' : Hp}, Wx (W.opn p) H1 H' → Wx W H H' := fun {H'} x2 a o n h => x2 a o (fun m => m.elim n fun z => ne_of_none h hp z) (x1 a o n h)
  exact ⟨fun σ' H' e' x2 i2 s2 hn => g.nx σ' H' e' (back x2) i2.1 (s2.to fun _ _ m => Or.inl m) hn, fun v H' r x2 i2 d2 hr => g.rt v H' r (back x2) i2.1 (Dv.to (fun _ _ m => Or.inl m) d2) hr, fun σ' H' e' x2 i2 s2 hn => g.bk σ' H' e' (back x2) i2.1 (s2.to fun _ _ m => Or.inl m) hn, fun σ' H' e' x2 i2 s2 hn => g.ct σ' H' e' (back x2) i2.1 (s2.to fun _ _ m => Or.inl m) hn⟩
/-! ### reading a list that may change -/
end
section
variable {ι : Type} {F : ι → Cx} {P : Program} {w : World} {K : PySem.W.Frag} {mg : Str → Option Value} {base : Heap} {N : List Str} {k : Nat} {sc : Scope} {W : Wd} {env : List Sl} {p : Addr} {us : List V} {ds : List PyData}
theorem ev_ml (fm : Fam P w K mg base N k sc F) {x : Str} {pos : Pos} (j : Nat) (hN : N[j]? = some x) (he : env[j]? = some (.ml p us ds)) (hv : visB sc x = true := by decide +kernel)
    (hd : (x == ("__debug__" : Str)) = false := by decide) (hc : (x == ("__classdict__" : Str)) = false := by decide) : E1 F W K (.Name x pos) env (.ml p us ds) := by
  intro σ H i sd Q q
  obtain ⟨o, ho, rfl, dn⟩ := sd.get he
  exact ⟨tVar j, fun z => pe_var (by rw [fm.nn z]; exact hN) (vis_of (fm.es z) hv) hd hc, .ref p, ho, q (.ref p) H (.ml p us ds) (Wx.refl W H) i ⟨rfl, dn⟩ rfl⟩
/-- the world knows what stands at p -/
def Has (W : Wd) (p : Addr) (us : List V) : Prop := ∀ H, W.I H → H p = some (.lst us)
theorem has_plus {W : Wd} : Has (W.plus p (.lst us)) p us := fun _ i => i.2
/-- f(x), x such a list -/
theorem ev_callM (fm : Fam P w K mg base N k sc F) {x : Str} {id : String} {q pos : Pos} {e : Expr} {d : PyData} (hI : Has W p us) (he : E1 F W K e env (.ml p us ds)) (hm : mg x = none) (hc : ∀ (H : Hp), H p = some (.lst us) → DnAll W K H us ds → ∃ r u, (∀ i, CallR (F i) (.builtin id) r) ∧ (∀ H, Dn W K H u d) ∧ ∀ Q : VK, Q u H → r [.ref p] H Q) (hv : bootBuiltins x = some (.builtin id) := by decide +kernel)
    (hg : glB sc x = true := by decide +kernel) (hn : x ≠ "__name__" := by decide) (hdb : (x == ("__debug__" : Str)) = false := by decide) (st : ∀ i, starEach (e :: []) (F i).env = (false, eval e (F i).env) :: starEach [] (F i).env := by intro _; rfl) (pl : ∀ i, (backTo pos (starEach [] (F i).env)).any (·.1) = false := by intro _; rfl) :
    E1 F W K (.Call (.Name x q) [e] [] pos) env (.dat d) := by
  intro σ H i sd Q qq
  refine ⟨tCB (WC F (.builtin id)) (tCons (WE F e) tNil), fun z => pe_callB (wc_call z) (gl_of (fm.es z) hg) (by rw [fm.mg z]; exact hm) hv (pa_cons (we_pe z) pa_nil (st z)) hn hdb (st z) (pl z), ?_⟩
  refine he σ H i sd _ fun v H1 r x1 i1 d1 h1 => ?_
  subst h1
  obtain ⟨z, dn⟩ := d1
  cases z
  obtain ⟨r, u, hr, du, hq⟩ := hc H1 (hI H1 i1) dn
  exact ⟨r, hr, hq Q (qq u H1 _ x1 i1 (du H1).dv rfl)⟩
theorem e_lenM (fm : Fam P w K mg base N k sc F) {q pos : Pos} {e : Expr} (hI : Has W p us) (he : E1 F W K e env (.ml p us ds)) (hm : mg "len" = none) (hg : glB sc "len" = true := by decide +kernel) (st : ∀ i, starEach (e :: []) (F i).env = (false, eval e (F i).env) :: starEach [] (F i).env := by intro _; rfl) : E1 F W K (.Call (.Name "len" q) [e] [] pos) env (.dat (.int (ds.length : Int))) :=
  ev_callM fm hI he hm (fun H h dn => ⟨rLn K, .int (ds.length : Int), call_ln fm, fun _ => .int _, fun Q q => ⟨p, us, rfl, .inl (SqL.of h), by rw [dn.length]; exact q⟩⟩) (hg := hg) (st := st)
/-- x[a:b] -/
theorem ev_cutM (fm : Fam P w K mg base N k sc F) {e : Expr} {lo hi : Option Expr} {p1 pos : Pos} {l h : Option Int} (hI : Has W p us) (he : E1 F W K e env (.ml p us ds)) (hl : EvO F W K lo env l) (hh : EvO F W K hi env h) : E1 F W K (.Subscript e (.Slice lo hi none p1) pos) env (.dat (.list (cutD ds l h))) := by
  intro σ H i sd Q q
  obtain ⟨tl, pl, ql⟩ := hl
  obtain ⟨th, ph, qh⟩ := hh
  refine ⟨tSl (rSlL K) (WE F e) tl th, fun z => pe_slice (by have := sl_list (X := F z); rwa [fm.kk z] at this) (we_pe z) (pl z) (ph z), ?_⟩
  refine he σ H i sd _ fun v H1 r x1 i1 d1 h1 => ?_
  subst h1
  refine ql σ H1 i1 (sd.mono x1) _ fun H2 x2 i2 => ?_
  refine qh σ H2 i2 (sd.mono (x1.trans x2)) _ fun H3 x3 i3 => ?_
  obtain ⟨z, rr⟩ := d1
  cases z
  refine ⟨_, _, rfl, SqL.of (hI H3 i3), fun p hp => ?_⟩
  obtain ⟨x4, i4, d4⟩ := new_lst i3 hp (cut_dn (lo := l) (hi := h) ((rr.mono x2).mono x3))
  exact q _ _ _ (((x1.trans x2).trans x3).trans x4) i4 d4.dv rfl
/-- x[i] -/
theorem ev_ixM (fm : Fam P w K mg base N k sc F) {a b : Expr} {pos : Pos} {i : Int} {d : PyData} (hI : Has W p us) (ha : E1 F W K a env (.ml p us ds)) (hb : E1 F W K b env (.dat (.int i))) (e : atI ds i = some d) (hs : PlainIx b := by exact fun _ _ => rfl) : E1 F W K (.Subscript a b pos) env (.dat d) := by
  intro σ H ii sd Q q
  refine ⟨tOp (WX F) (WE F a) (WE F b), fun z => pe_ix (wx_ix z) (we_pe z) (we_pe z) hs, ?_⟩
  refine ha σ H ii sd _ fun v1 H1 r1 x1 i1 d1 h1 => ?_
  subst h1
  refine hb σ H1 i1 (sd.mono x1) _ fun v2 H2 r2 x2 i2 d2 h2 => ?_
  subst h2
  obtain ⟨z, rr⟩ := d1
  cases z
  obtain ⟨u2, z2, n2⟩ := d2
  cases z2
  cases n2
  obtain ⟨v, e2, dn⟩ := atI_dn (rr.mono x2) e
  exact ⟨rIxL K, fun z => by have := ix_list (X := F z); rwa [fm.kk z] at this, _, _, i, v, rfl, rfl, SqL.of (hI H2 i2), e2, q v H2 _ (x1.trans x2) i2 dn.dv rfl⟩
/-- isinstance(x, list) -/
theorem ev_isiM (fm : Fam P w K mg base N k sc F) {e : Expr} {q p2 pos : Pos} {x : Str} {T : String} (hI : Has W p us) (he : E1 F W K e env (.ml p us ds)) (hm : mg "isinstance" = none) (hmT : mg x = none) (hT : KitT T) (hv : bootBuiltins x = some (.type T) := by decide +kernel)
    (hg : glB sc "isinstance" = true := by decide +kernel) (hgT : glB sc x = true := by decide +kernel) (hn : x ≠ "__name__" := by decide) (hdb : (x == ("__debug__" : Str)) = false := by decide)
    (st : ∀ i, starEach (e :: [.Name x p2]) (F i).env = (false, eval e (F i).env) :: starEach [.Name x p2] (F i).env := by intro _; rfl) (pl : ∀ i, (backTo pos (starEach [.Name x p2] (F i).env)).any (·.1) = false := by intro _; rfl) :
    E1 F W K (.Call (.Name "isinstance" q) [e, .Name x p2] [] pos) env (.dat (.bool (isaD T (.list ds)))) := by
  intro σ H i sd Q qq
  refine ⟨tCB (WC F (.builtin "isinstance")) (tCons (WE F e) (tCons (tC (.ty T)) tNil)), fun z => pe_callB (wc_call z) (gl_of (fm.es z) hg) (by rw [fm.mg z]; exact hm) (by decide +kernel) (pa_cons (we_pe z) (pa_cons (pe_bltn (gl_of (fm.es z) hgT) (by rw [fm.mg z]; exact hmT) hv rfl hn hdb) pa_nil (by rfl)) (st z)) (by decide) (by decide) (st z) (pl z), ?_⟩
  refine he σ H i sd _ fun v H1 r x1 i1 d1 h1 => ?_
  subst h1
  obtain ⟨z, n1⟩ := d1
  cases z
  exact ⟨rIsi K, fun z => by have := call_isi (X := F z); rwa [fm.kk z] at this, _, .ty T, _, .type T, _, rfl, .ty T, .base (.lst (hI H1 i1)), hT.of (.list ds), qq _ H1 _ x1 i1 (Dn.dv (.bl _)) rfl⟩
end
end Cr

set_option Elab.async false
set_option linter.all false
set_option maxRecDepth 100000
set_option maxHeartbeats 4000000
namespace Cr
open PySem PySem.Spec PyProof.Rows L2
/-! ## methods of lists and tuples -/
def rCountD (K : PySem.W.Frag) : V → List V → Hp → VK → Prop := fun x xs H Q => ∃ (a : Addr) (y : V) (d : PyData) (ds : List PyData), x = .ref a ∧ xs = [y] ∧ Dp K H (.ref a) (.list ds) ∧ Dp K H y d ∧ PyData.canLayAll0 ds = true ∧ d.canLay0 = true ∧ d.depth ≤ 60 ∧ Q (.int ((ds.countP fun z => PyData.eqv z d : Nat) : Int)) H
theorem mt_countD {X : Cx} (hu : X.A.units + 64 < cLine) : MtR X "list.count" (rCountD X.K) := by
  intro pins s σ H x xs v us Q I rx rxs h
  obtain ⟨a, y, d, ds, rfl, rfl, hl, hy, c1, c2, dd, q⟩ := h
  cases rx
  obtain ⟨u, rfl, ru⟩ := vals1 rxs
  obtain ⟨as, r1⟩ := Dp.reads I _ _ _ hl rfl
  obtain ⟨bs, r2⟩ := Dp.reads I d y u hy ru
  cases r1 with
  | list h1 h2 h3 h4 =>
    refine SeqAt.count_list_data ⟨_, h1, h2, _, h3⟩ h4 r2 (PyData.plainAll_of_canLay0 _ c1) (PyData.plain_of_canLay0 _ c2) (by have : min (PyData.depthAll ds) d.depth ≤ d.depth := Nat.min_le_right _ _; omega) ?_
    exact ⟨.int _, H, I.tok _, ⟨_, rfl⟩, q⟩
section
variable {ι : Type} {F : ι → Cx} {P : Program} {w : World} {K : PySem.W.Frag} {mg : Str → Option Value} {base : Heap} {N : List Str} {k : Nat} {sc : Scope} {W V : Wd} {env : List Sl}
/-- o.count(e), o a list -/
theorem ev_countL (fm : Fam P w K mg base N k sc F) {o e : Expr} {apos pos : Pos} {ds : List PyData} {d : PyData} (ho : E1 F W K o env (.dat (.list ds))) (he : E1 F W K e env (.dat d)) (n1 : NiceAll ds 20) (n2 : Nice d 20) (hb : ∀ i, attributeBase o "count" (F i).env (eval o (F i).env) = eval o (F i).env := by intro _; rfl)
    (hw : ∀ i, ((backTo pos (starEach [e] (F i).env)).all (fun x => !x.1) && (backToKw pos (keywordEach [] (F i).env)).all (fun x => x.1.isSome) && decide ([e].length + ([] : List Keyword).length + (if ([] : List Keyword).isEmpty then 0 else 1) < 30)) = true := by intro _; rfl) (hl : (apos.endLine == pos.line) = true := by rfl)
    (st : ∀ i, starEach [e] (F i).env = (false, eval e (F i).env) :: starEach [] (F i).env := by intro _; rfl) (pl : ∀ i, (backTo pos (starEach [] (F i).env)).any (·.1) = false := by intro _; rfl) :
    E1 F W K (.Call (.Attribute o "count" apos) [e] [] pos) env (.dat (.int ((ds.countP fun z => PyData.eqv z d : Nat) : Int))) := by
  intro σ H i sd Q q
  refine ⟨tBM K "list" (rCountD K) (WE F o) (tCons (WE F e) tNil), fun z => by have := pe_bm PySem.F.plainAttrs_list PySem.F.slot_list_count PySem.F.type_list_count (mt_countD (X := F z) (fm.ro z).units) (we_pe (F := F) (e := o) z) (pa_cons (we_pe (F := F) (e := e) z) pa_nil (st z)) (hb z) (hw z) hl (st z) (pl z); rwa [fm.kk z] at this, ?_⟩
  refine ho σ H i sd _ fun v1 H1 r1 x1 i1 d1 h1 => ?_
  subst h1
  obtain ⟨u, z, n⟩ := d1
  cases z
  cases n with
  | @lst a xs _ la ra =>
    refine ⟨.inl ⟨rfl, xs, la.sq⟩, ?_⟩
    refine he σ H1 i1 (sd.mono x1) _ fun v2 H2 r2 x2 i2 d2 h2 => ?_
    subst h2
    obtain ⟨u2, z2, n2'⟩ := d2
    cases z2
    exact ⟨a, v2, d, ds, rfl, rfl, .lst (la.mono x2).sq (DnAll.dp (DnAll.mono x2 ra) n1.nd), n2'.dp n2.nd, n1.lay, n2.lay, Nat.le_trans n2.dp (by decide), q _ H2 _ (x1.trans x2) i2 (Dn.dv (.int _)) rfl⟩
theorem ev_countM (fm : Fam P w K mg base N k sc F) {o e : Expr} {apos pos : Pos} {p : Addr} {us : List L2.V} {ds : List PyData} {d : PyData} (hI : Has W p us) (ho : E1 F W K o env (.ml p us ds)) (he : E1 F W K e env (.dat d)) (n1 : NiceAll ds 20) (n2 : Nice d 20) (hb : ∀ i, attributeBase o "count" (F i).env (eval o (F i).env) = eval o (F i).env := by intro _; rfl)
    (hw : ∀ i, ((backTo pos (starEach [e] (F i).env)).all (fun x => !x.1) && (backToKw pos (keywordEach [] (F i).env)).all (fun x => x.1.isSome) && decide ([e].length + ([] : List Keyword).length + (if ([] : List Keyword).isEmpty then 0 else 1) < 30)) = true := by intro _; rfl) (hl : (apos.endLine == pos.line) = true := by rfl)
    (st : ∀ i, starEach [e] (F i).env = (false, eval e (F i).env) :: starEach [] (F i).env := by intro _; rfl) (pl : ∀ i, (backTo pos (starEach [] (F i).env)).any (·.1) = false := by intro _; rfl) :
    E1 F W K (.Call (.Attribute o "count" apos) [e] [] pos) env (.dat (.int ((ds.countP fun z => PyData.eqv z d : Nat) : Int))) := by
  intro σ H i sd Q q
  refine ⟨tBM K "list" (rCountD K) (WE F o) (tCons (WE F e) tNil), fun z => by have := pe_bm PySem.F.plainAttrs_list PySem.F.slot_list_count PySem.F.type_list_count (mt_countD (X := F z) (fm.ro z).units) (we_pe (F := F) (e := o) z) (pa_cons (we_pe (F := F) (e := e) z) pa_nil (st z)) (hb z) (hw z) hl (st z) (pl z); rwa [fm.kk z] at this, ?_⟩
  refine ho σ H i sd _ fun v1 H1 r1 x1 i1 d1 h1 => ?_
  subst h1
  obtain ⟨z, ra⟩ := d1
  cases z
  refine ⟨.inl ⟨rfl, us, SqL.of (hI H1 i1)⟩, ?_⟩
  refine he σ H1 i1 (sd.mono x1) _ fun v2 H2 r2 x2 i2 d2 h2 => ?_
  subst h2
  obtain ⟨u2, z2, n2'⟩ := d2
  cases z2
  exact ⟨p, v2, d, ds, rfl, rfl, .lst (SqL.of (hI H2 i2)) (DnAll.dp (DnAll.mono x2 ra) n1.nd), n2'.dp n2.nd, n1.lay, n2.lay, Nat.le_trans n2.dp (by decide), q _ H2 _ (x1.trans x2) i2 (Dn.dv (.int _)) rfl⟩
/-- x.append(e), x a list that may change -/
theorem bd2_append (fm : Fam P w K mg base N k sc F) {x : Str} {e : Expr} {p1 apos pos epos : Pos} {rest : List Stmt} {Po : Post} {W0 : Wd} {p : Addr} {us : List L2.V} {ds : List PyData} {d : PyData} (j : Nat) (hN : N[j]? = some x) (hj : env[j]? = some (.ml p us ds)) (np : ¬ W0.M p) (lw : Wle (W0.plus p (.lst us)) V) (hz : us.length ≤ 1000000)
    (he : E1 F (W0.plus p (.lst us)) K e env (.dat d)) (hr : ∀ v, Bd2 F (W0.plus p (.lst (us ++ [v]))) V K rest (env.set j (.ml p (us ++ [v]) (ds ++ [d]))) Po) (hv : visB sc x = true := by decide +kernel) (hd : (x == ("__debug__" : Str)) = false := by decide) (hc : (x == ("__classdict__" : Str)) = false := by decide)
    (hb : ∀ i, attributeBase (.Name x p1) "append" (F i).env (eval (.Name x p1) (F i).env) = eval (.Name x p1) (F i).env := by intro _; rfl)
    (hw : ∀ i, ((backTo pos (starEach [e] (F i).env)).all (fun x => !x.1) && (backToKw pos (keywordEach [] (F i).env)).all (fun x => x.1.isSome) && decide ([e].length + ([] : List Keyword).length + (if ([] : List Keyword).isEmpty then 0 else 1) < 30)) = true := by intro _; rfl) (hl : (apos.endLine == pos.line) = true := by rfl)
    (st : ∀ i, starEach [e] (F i).env = (false, eval e (F i).env) :: starEach [] (F i).env := by intro _; rfl) (pl : ∀ i, (backTo pos (starEach [] (F i).env)).any (·.1) = false := by intro _; rfl) (sw : ∀ i, swapsWith (.Call (.Attribute (.Name x p1) "append" apos) [e] [] pos) none epos.line (F i).env = pure false := by intro _; rfl) :
    Bd2 F (W0.plus p (.lst us)) V K (.Expr (.Call (.Attribute (.Name x p1) "append" apos) [e] [] pos) epos :: rest) env Po := by
  intro σ H D i sd g
  refine ⟨tSeq (tDrop (tBM K "list" rAppend (tVar j) (tCons (WE F e) tNil))) (WS F rest), fun z => pss_cons (ps_expr (by have := pe_bm (r := rAppend) PySem.F.plainAttrs_list PySem.F.slot_list_append PySem.F.type_list_append (mt_append (X := F z)) (pe_var (X := F z) (i := j) (pos := p1) (by rw [fm.nn z]; exact hN) (vis_of (fm.es z) hv) hd hc) (pa_cons (we_pe (F := F) (e := e) z) pa_nil (st z)) (hb z) (hw z) hl (st z) (pl z); rwa [fm.kk z] at this) (sw z)) (ws_ps z), ?_⟩
  obtain ⟨o, ho, rfl, dn⟩ := sd.get hj
  refine ⟨.ref p, ho, .inl ⟨rfl, us, SqL.of i.2⟩, ?_⟩
  refine he σ H i sd _ fun v H1 r x1 i1 d1 h1 => ?_
  subst h1
  obtain ⟨u, z, n⟩ := d1
  cases z
  refine ⟨p, us, v, rfl, rfl, i1.2, Nat.lt_of_le_of_lt hz (by rw [sizeLine_eq]; decide), ?_⟩
  have keep : ∀ a o, ¬ (W0.plus p (.lst us)).M a → H1 a = some o → upd H1 p (.lst (us ++ [v])) a = some o := fun a o n h => by
    rw [upd_ne fun z => n (Or.inr z)]
    exact h
  have sd2 : Sd (W0.plus p (.lst us)) K (upd H1 p (.lst (us ++ [v]))) σ env := (sd.mono x1).mono keep
  have sd3 : Sd (W0.plus p (.lst (us ++ [v]))) K (upd H1 p (.lst (us ++ [v]))) σ env := Sd.to (W := W0.plus p (.lst us)) (W' := W0.plus p (.lst (us ++ [v]))) (fun _ _ m => m) sd2
  have dn2 : DnAll (W0.plus p (.lst (us ++ [v]))) K (upd H1 p (.lst (us ++ [v]))) (us ++ [v]) (ds ++ [d]) := DnAll.to (W := W0.plus p (.lst us)) (W' := W0.plus p (.lst (us ++ [v]))) (fun _ _ m => m) ((DnAll.mono keep ((DnAll.mono x1 dn).append (.cons n .nil))))
  refine hr v σ _ D ⟨?_, upd_same⟩ ?_ (g.mono (lw.wx (x1.trans keep)))
  · exact W0.loc _ _ i1.1 fun b m => upd_ne fun z => np (z ▸ m)
  · have same : σ.set j (some (.ref p)) = σ := by
      obtain ⟨hj', e'⟩ := List.getElem?_eq_some_iff.mp ho
      rw [← e', List.set_getElem_self]
    have := Sd.set (v := .ref p) (s := .ml p (us ++ [v]) (ds ++ [d])) ⟨rfl, dn2⟩ j sd3
    rwa [same] at this
end
end Cr

set_option Elab.async false
set_option linter.all false
set_option maxRecDepth 100000
set_option maxHeartbeats 4000000
namespace Cr
open PySem PySem.Spec PyProof.Rows L2
/-! ## .index of a text among texts -/
section
variable {ι : Type} {F : ι → Cx} {P : Program} {w : World} {K : PySem.W.Frag} {mg : Str → Option Value} {base : Heap} {N : List Str} {k : Nat} {sc : Scope} {W : Wd} {env : List Sl}
def rTupIx (K : PySem.W.Frag) : V → List V → Hp → VK → Prop := fun x xs H Q => ∃ p, ∃ ys : List Str, ∃ z j, x = .ref p ∧ xs = [.str z] ∧ SqT K H p (ys.map V.str) ∧ ys[j]? = some z ∧ (∀ m, m < j → ys[m]? ≠ some z) ∧ Q (.int (j : Nat)) H
/-- o.index(e), o a written tuple of texts -/
theorem ev_idxT (fm : Fam P w K mg base N k sc F) {o e : Expr} {apos pos : Pos} {a : Addr} {ys : List Str} {z : Str} (j : Nat) (ty : ∃ ob, K.lookup a = some ob ∧ ob.cls = .type "tuple" ∧ ob.dict = none) (sq : SqT K (fun _ => none) a (ys.map V.str)) (ho : E1 F W K o env (.raw (.ref a))) (he : E1 F W K e env (.dat (.str z)))
    (hz : ys[j]? = some z) (hno : ∀ m, m < j → ys[m]? ≠ some z) (hb : ∀ i, attributeBase o "index" (F i).env (eval o (F i).env) = eval o (F i).env := by intro _; rfl)
    (hw : ∀ i, ((backTo pos (starEach [e] (F i).env)).all (fun x => !x.1) && (backToKw pos (keywordEach [] (F i).env)).all (fun x => x.1.isSome) && decide ([e].length + ([] : List Keyword).length + (if ([] : List Keyword).isEmpty then 0 else 1) < 30)) = true := by intro _; rfl) (hl : (apos.endLine == pos.line) = true := by rfl)
    (st : ∀ i, starEach [e] (F i).env = (false, eval e (F i).env) :: starEach [] (F i).env := by intro _; rfl) (pl : ∀ i, (backTo pos (starEach [] (F i).env)).any (·.1) = false := by intro _; rfl) :
    E1 F W K (.Call (.Attribute o "index" apos) [e] [] pos) env (.dat (.int (j : Nat))) := by
  intro σ H i sd Q q
  refine ⟨tBM K "tuple" (rTupIx K) (WE F o) (tCons (WE F e) tNil), fun z => by have := pe_bm PySem.F.plainAttrs_tuple PySem.F.slot_tuple_index PySem.F.type_tuple_index (mt_tup_index (X := F z)) (we_pe (F := F) (e := o) z) (pa_cons (we_pe (F := F) (e := e) z) pa_nil (st z)) (hb z) (hw z) hl (st z) (pl z); rwa [fm.kk z] at this, ?_⟩
  refine ho σ H i sd _ fun v1 H1 r1 x1 i1 d1 h1 => ?_
  subst h1
  cases (show some v1 = some (V.ref a) from d1)
  refine ⟨.inr (.inl ⟨rfl, ty⟩), ?_⟩
  refine he σ H1 i1 (sd.mono x1) _ fun v2 H2 r2 x2 i2 d2 h2 => ?_
  subst h2
  obtain ⟨u2, z2, n2⟩ := d2
  cases z2
  cases n2
  have sq2 : SqT K H2 a (ys.map V.str) := by
    rcases sq with c | c
    · exact (rd_none c).elim
    · exact .inr c
  exact ⟨a, ys, z, j, rfl, rfl, sq2, hz, hno, q _ H2 _ (x1.trans x2) i2 (Dn.dv (.int _)) rfl⟩
/-- o.index(e), o a list of texts -/
theorem ev_idxL (fm : Fam P w K mg base N k sc F) {o e : Expr} {apos pos : Pos} {ys : List Str} {z : Str} (j : Nat) (ho : E1 F W K o env (.dat (.list (ys.map .str)))) (he : E1 F W K e env (.dat (.str z)))
    (hz : ys[j]? = some z) (hno : ∀ m, m < j → ys[m]? ≠ some z) (hb : ∀ i, attributeBase o "index" (F i).env (eval o (F i).env) = eval o (F i).env := by intro _; rfl)
    (hw : ∀ i, ((backTo pos (starEach [e] (F i).env)).all (fun x => !x.1) && (backToKw pos (keywordEach [] (F i).env)).all (fun x => x.1.isSome) && decide ([e].length + ([] : List Keyword).length + (if ([] : List Keyword).isEmpty then 0 else 1) < 30)) = true := by intro _; rfl) (hl : (apos.endLine == pos.line) = true := by rfl)
    (st : ∀ i, starEach [e] (F i).env = (false, eval e (F i).env) :: starEach [] (F i).env := by intro _; rfl) (pl : ∀ i, (backTo pos (starEach [] (F i).env)).any (·.1) = false := by intro _; rfl) :
    E1 F W K (.Call (.Attribute o "index" apos) [e] [] pos) env (.dat (.int (j : Nat))) := by
  have sn : ∀ {H : Hp} {ys : List Str} {xs : List V}, DnAll W K H xs (ys.map .str) → xs = ys.map V.str := by
    intro H ys
    induction ys with
    | nil =>
      intro xs h
      cases h
      rfl
    | cons y ys ih =>
      intro xs h
      cases h with
      | cons a t =>
        cases a
        rw [ih t]
        rfl
  intro σ H i sd Q q
  refine ⟨tBM K "list" (rIndex K) (WE F o) (tCons (WE F e) tNil), fun z => by have := pe_bm PySem.F.plainAttrs_list PySem.F.slot_list_index PySem.F.type_list_index (mt_index (X := F z)) (we_pe (F := F) (e := o) z) (pa_cons (we_pe (F := F) (e := e) z) pa_nil (st z)) (hb z) (hw z) hl (st z) (pl z); rwa [fm.kk z] at this, ?_⟩
  refine ho σ H i sd _ fun v1 H1 r1 x1 i1 d1 h1 => ?_
  subst h1
  obtain ⟨u, zz, n⟩ := d1
  cases zz
  cases n with
  | @lst a xs _ la ra =>
    have ex := sn ra
    subst ex
    refine ⟨.inl ⟨rfl, _, la.sq⟩, ?_⟩
    refine he σ H1 i1 (sd.mono x1) _ fun v2 H2 r2 x2 i2 d2 h2 => ?_
    subst h2
    obtain ⟨u2, z2, n2⟩ := d2
    cases z2
    cases n2
    refine ⟨a, ys.map V.str, .str z, j, .str z, rfl, rfl, (la.mono x2).sq, rfl, List.all_eq_true.mpr (fun y hy => by obtain ⟨s, _, rfl⟩ := List.mem_map.mp hy; rfl), by rw [List.getElem?_map, hz]; rfl, decide_eq_true rfl, fun m z' hm hz' => ?_, q _ H2 _ (x1.trans x2) i2 (Dn.dv (.int _)) rfl⟩
    rw [List.getElem?_map] at hz'
    cases hq : ys[m]? with
    | none =>
      rw [hq] at hz'
      cases hz'
    | some y =>
      rw [hq] at hz'
      cases hz'
      have : y ≠ z := fun c => hno m hm (by rw [hq, c])
      exact decide_eq_false this
end
end Cr

set_option Elab.async false
set_option linter.all false
set_option maxRecDepth 100000
set_option maxHeartbeats 4000000
namespace Cr
open PySem PySem.Spec PyProof.Rows L2
section
variable {ι : Type} {F : ι → Cx} {P : Program} {w : World} {K : PySem.W.Frag} {mg : Str → Option Value} {base : Heap} {N : List Str} {k : Nat} {sc : Scope} {W V : Wd} {env : List Sl}
/-- a block that may add to the list at p: Nx tells what it leaves -/
def BdX (F : ι → Cx) (W0 : Wd) (K : PySem.W.Frag) (p : Addr) (us : List L2.V) (ss : List Stmt) (env : List Sl) (Nx : List L2.V → List Sl → Prop) : Prop :=
  ∀ (σ : L2.St) (H : Hp) (D : Ends), (W0.plus p (.lst us)).I H → Sd (W0.plus p (.lst us)) K H σ env → (∀ us' σ' H' e, Wx (W0.opn p) H H' → (W0.plus p (.lst us')).I H' → Sd (W0.plus p (.lst us')) K H' σ' e → Nx us' e → D.nx σ' H') → WS F ss D σ H
theorem plus_le {W0 : Wd} {p : Addr} {o : HO} : Wle (W0.plus p o) (W0.opn p) := fun _ m => m
/-- .. by one append -/
theorem bdx_append (fm : Fam P w K mg base N k sc F) {x : Str} {e : Expr} {p1 apos pos epos : Pos} {W0 : Wd} {p : Addr} {us : List L2.V} {ds : List PyData} {d : PyData} {Nx : List L2.V → List Sl → Prop} (j : Nat) (hN : N[j]? = some x) (hj : env[j]? = some (.ml p us ds)) (np : ¬ W0.M p) (hz : us.length ≤ 1000000)
    (he : E1 F (W0.plus p (.lst us)) K e env (.dat d)) (hr : ∀ v, Nx (us ++ [v]) (env.set j (.ml p (us ++ [v]) (ds ++ [d])))) (hv : visB sc x = true := by decide +kernel) (hd : (x == ("__debug__" : Str)) = false := by decide) (hc : (x == ("__classdict__" : Str)) = false := by decide)
    (hb : ∀ i, attributeBase (.Name x p1) "append" (F i).env (eval (.Name x p1) (F i).env) = eval (.Name x p1) (F i).env := by intro _; rfl)
    (hw : ∀ i, ((backTo pos (starEach [e] (F i).env)).all (fun x => !x.1) && (backToKw pos (keywordEach [] (F i).env)).all (fun x => x.1.isSome) && decide ([e].length + ([] : List Keyword).length + (if ([] : List Keyword).isEmpty then 0 else 1) < 30)) = true := by intro _; rfl) (hl : (apos.endLine == pos.line) = true := by rfl)
    (st : ∀ i, starEach [e] (F i).env = (false, eval e (F i).env) :: starEach [] (F i).env := by intro _; rfl) (pl : ∀ i, (backTo pos (starEach [] (F i).env)).any (·.1) = false := by intro _; rfl) (sw : ∀ i, swapsWith (.Call (.Attribute (.Name x p1) "append" apos) [e] [] pos) none epos.line (F i).env = pure false := by intro _; rfl) :
    BdX F W0 K p us [.Expr (.Call (.Attribute (.Name x p1) "append" apos) [e] [] pos) epos] env Nx := by
  intro σ H D i sd g
  refine ⟨tSeq (tDrop (tBM K "list" rAppend (tVar j) (tCons (WE F e) tNil))) tNext, fun z => pss_cons (ps_expr (by have := pe_bm (r := rAppend) PySem.F.plainAttrs_list PySem.F.slot_list_append PySem.F.type_list_append (mt_append (X := F z)) (pe_var (X := F z) (i := j) (pos := p1) (by rw [fm.nn z]; exact hN) (vis_of (fm.es z) hv) hd hc) (pa_cons (we_pe (F := F) (e := e) z) pa_nil (st z)) (hb z) (hw z) hl (st z) (pl z); rwa [fm.kk z] at this) (sw z)) pss_nil, ?_⟩
  obtain ⟨o, ho, rfl, dn⟩ := sd.get hj
  refine ⟨.ref p, ho, .inl ⟨rfl, us, SqL.of i.2⟩, ?_⟩
  refine he σ H i sd _ fun v H1 r x1 i1 d1 h1 => ?_
  subst h1
  obtain ⟨u, z, n⟩ := d1
  cases z
  refine ⟨p, us, v, rfl, rfl, i1.2, Nat.lt_of_le_of_lt hz (by rw [sizeLine_eq]; decide), ?_⟩
  have keep : ∀ a o, ¬ (W0.plus p (.lst us)).M a → H1 a = some o → upd H1 p (.lst (us ++ [v])) a = some o := fun a o n h => by
    rw [upd_ne fun z => n (Or.inr z)]
    exact h
  have sd2 : Sd (W0.plus p (.lst us)) K (upd H1 p (.lst (us ++ [v]))) σ env := (sd.mono x1).mono keep
  have sd3 : Sd (W0.plus p (.lst (us ++ [v]))) K (upd H1 p (.lst (us ++ [v]))) σ env := Sd.to (W := W0.plus p (.lst us)) (W' := W0.plus p (.lst (us ++ [v]))) (fun _ _ m => m) sd2
  have dn2 : DnAll (W0.plus p (.lst (us ++ [v]))) K (upd H1 p (.lst (us ++ [v]))) (us ++ [v]) (ds ++ [d]) := DnAll.to (W := W0.plus p (.lst us)) (W' := W0.plus p (.lst (us ++ [v]))) (fun _ _ m => m) ((DnAll.mono keep ((DnAll.mono x1 dn).append (.cons n .nil))))
  refine g (us ++ [v]) σ _ _ (x1.trans keep) ⟨W0.loc _ _ i1.1 fun b m => upd_ne fun z => np (z ▸ m), upd_same⟩ ?_ (hr v)
  have same : σ.set j (some (.ref p)) = σ := by
    obtain ⟨hj', e'⟩ := List.getElem?_eq_some_iff.mp ho
    rw [← e', List.set_getElem_self]
  have := Sd.set (v := .ref p) (s := .ml p (us ++ [v]) (ds ++ [d])) ⟨rfl, dn2⟩ j sd3
  rwa [same] at this
/-- for tg in a tuple, where each turn may add to the list at p -/
theorem bd2_forT (fm : Fam P w K mg base N k sc F) {tg a : Expr} {pos : Pos} {body rest : List Stmt} {Po : Post} {ts : List PyData} {W0 : Wd} {p : Addr} {us0 : List L2.V} (Iv : Nat → List L2.V → List Sl → Prop) (ha : E1 F (W0.plus p (.lst us0)) K a env (.dat (.tuple ts))) (h0 : Iv 0 us0 env)
    (hs : ∀ (i : Nat) d us env1, ts[i]? = some d → Iv i us env1 → ∃ env2, Tg F (W0.plus p (.lst us)) K tg (.dat d) env1 env2 ∧ BdX F W0 K p us body env2 (Iv (i + 1))) (hd : ∀ us env1, Iv ts.length us env1 → Bd2 F (W0.plus p (.lst us)) (W0.opn p) K rest env1 Po)
    (hp : ∀ i, PassesOwn (model (F i).prog (F i).w) (F i).A (F i).env (F i).xe := by intro _; exact PassesOwn.never) (hf : ∀ i x, foldedSetIterable a (F i).env x = pure x := by intro _ _; rfl) : Bd2 F (W0.plus p (.lst us0)) (W0.opn p) K (.For tg a body [] pos :: rest) env Po := by
  intro σ H D ii sd g
  refine ⟨tSeq (tFor (iTup K (WE F a)) (WG F tg) (WS F body)) (WS F rest), fun z => pss_cons (ps_for (hp z) (fm.ca z) (by have := pi_tup (tg := tg) (we_pe (F := F) (e := a) z); rwa [fm.kk z] at this) (wg_pg z) (ws_ps z) (hf z)) (ws_ps z), ?_⟩
  refine ha σ H ii sd _ fun v H1 r x1 i1 d1 h1 => ?_
  subst h1
  obtain ⟨u, e, dn⟩ := d1
  cases e
  cases dn with
  | @tup ad xs _ la da =>
    have lo : ∀ {H'}, Wx (W0.opn p) H1 H' → TA' (W0.plus p (.lst us0)) K H' ad xs := fun {H'} x' => la.mono fun a o n h => x' a o n h
    have dk : ∀ {H' v d} (us : List L2.V), Wx (W0.opn p) H1 H' → Dn (W0.plus p (.lst us0)) K H1 v d → Dn (W0.plus p (.lst us)) K H' v d := fun {H' v d} us x' h => Dn.to (W := W0.plus p (.lst us0)) (W' := W0.plus p (.lst us)) (fun _ _ m => m) (Dn.mono (W := W0.plus p (.lst us0)) (H := H1) (H' := H') (fun a o n h => x' a o n h) h)
    refine ⟨ad, rfl, ⟨xs, la.sq⟩, for_tup (D := { D with nx := WS F rest D }) (fun i σ' H' => ∃ us e, Wx (W0.opn p) H1 H' ∧ (W0.plus p (.lst us)).I H' ∧ Sd (W0.plus p (.lst us)) K H' σ' e ∧ Iv i us e) ⟨us0, env, Wx.refl _ H1, i1, sd.mono x1, h0⟩ (fun i σ' H' _ ⟨_, _, x', _⟩ => (lo x').sq) ?_ ?_⟩
    · intro i x σ' H' hx ⟨us, e, x', i', s', iv⟩
      obtain ⟨d, hd2, dn⟩ := da.getV hx
      obtain ⟨env2, ht, hb⟩ := hs i d us e hd2 iv
      refine ht x σ' H' i' s' (dk us x' dn).dv _ fun σ2 H2 x2 i2 s2 => ?_
      exact hb σ2 H2 _ i2 s2 fun us' σ3 H3 e3 y j s3 h3 => ⟨us', e3, (x'.trans x2).trans y, j, s3, h3⟩
    · intro σ' H' ⟨us, e, x', i', s', iv⟩
      rw [da.length] at iv
      exact hd us e iv σ' H' D i' s' (g.mono (x1.trans x'))
end
end Cr

set_option Elab.async false
set_option linter.all false
set_option maxRecDepth 100000
set_option maxHeartbeats 4000000
namespace Cr
open PySem PySem.Spec PyProof.Rows L2
section
variable {ι : Type} {F : ι → Cx} {P : Program} {w : World} {K : PySem.W.Frag} {mg : Str → Option Value} {base : Heap} {N : List Str} {k : Nat} {sc : Scope} {W : Wd} {env : List Sl}
/-- for a, b in zip(x, y), lists of data -/
theorem bd_forZ (fm : Fam P w K mg base N k sc F) {elts : List Expr} {kk : Nat} {tpos p pos fpos : Pos} {e e2 : Expr} {body rest : List Stmt} {Po : Post} {ds es : List PyData} (Iv : Nat → List Sl → Prop) (ha : A1 F W K [e, e2] env [.list ds, .list es]) (hm : mg "zip" = none) (h0 : Iv 0 env)
    (hs : ∀ (i : Nat) d d' env1, ds[i]? = some d → es[i]? = some d' → Iv i env1 → ∃ env2, Tg F W K (.Tuple elts kk tpos) (.dat (.tuple [d, d'])) env1 env2 ∧ Bd F W K body env2 { nx := Iv (i + 1), ct := Iv (i + 1), rt := Po.rt }) (hd : ∀ env1, Iv (min ds.length es.length) env1 → Bd F W K rest env1 Po) (hg : glB sc "zip" = true := by decide +kernel)
    (st : ∀ i, starEach [e, e2] (F i).env = (false, eval e (F i).env) :: starEach [e2] (F i).env := by intro _; rfl) (pl : ∀ i, (backTo pos (starEach [e2] (F i).env)).any (·.1) = false := by intro _; rfl)
    (hp : ∀ i, PassesOwn (model (F i).prog (F i).w) (F i).A (F i).env (F i).xe := by intro _; exact PassesOwn.never) (hf : ∀ i x, foldedSetIterable (.Call (.Name "zip" p) [e, e2] [] pos) (F i).env x = pure x := by intro _ _; rfl) : Bd F W K (.For (.Tuple elts kk tpos) (.Call (.Name "zip" p) [e, e2] [] pos) body [] fpos :: rest) env Po := by
  intro σ H D ii sd g
  refine ⟨tSeq (tFor (iZip K (WA F [e, e2])) (WG F (.Tuple elts kk tpos)) (WS F body)) (WS F rest), fun z => pss_cons (ps_for (hp z) (fm.ca z) (by have := pi_zip (X := F z) (elts := elts) (kk := kk) (tpos := tpos) (p := p) (pos := pos) (gl_of (fm.es z) hg) (by rw [fm.mg z]; exact hm) (wa_pa (F := F) (es := [e, e2]) z) (st z) (pl z); rwa [fm.kk z] at this) (wg_pg z) (ws_ps z) (hf z)) (ws_ps z), ?_⟩
  refine ha σ H ii sd _ fun vs H1 rs x1 i1 d1 h1 => ?_
  subst h1
  have dn := dn_of_sd d1
  cases dn with
  | cons a t =>
    cases t with
    | cons b t =>
      cases t
      cases a with
      | @lst pa xs _ la da =>
        cases b with
        | @lst pb ys _ lb db =>
          have hn : min ds.length es.length = min xs.length ys.length := by rw [da.length, db.length]
          refine ⟨pa, pb, xs, ys, rfl, la.sq, lb.sq, for_it (walk_zip hn) (D := { D with nx := WS F rest D }) (fun i σ' H' => ∃ e, Wx W H1 H' ∧ W.I H' ∧ Sd W K H' σ' e ∧ Iv i e) ⟨env, Wx.refl W H1, i1, sd.mono x1, h0⟩ (fun i σ' H' _ ⟨e, x', _⟩ => ⟨(la.mono x').sq, (lb.mono x').sq⟩) ?_ ?_⟩
          · rintro i x σ' H' H2 hi ⟨e, x', i', s', iv⟩ ⟨T, u, v, rfl, hT, rfl, hx, hy⟩
            obtain ⟨d, hd1, dn1⟩ := da.getV hx
            obtain ⟨d', hd2, dn2⟩ := db.getV hy
            obtain ⟨env2, ht, hb⟩ := hs i d d' e hd1 hd2 iv
            obtain ⟨x3, i3, dT⟩ := new_tup (K := K) (vs := [u, v]) (ds := [d, d']) i' hT (.cons (dn1.mono x') (.cons (dn2.mono x') .nil))
            refine ht _ σ' _ i3 (s'.mono x3) dT.dv _ fun σ2 H2 x2 i2 s2 => ?_
            have xx := (x'.trans x3).trans x2
            exact hb σ2 H2 _ i2 s2 ⟨fun σ3 H3 e3 y j s3 h3 => ⟨e3, xx.trans y, j, s3, h3⟩, fun v H3 r y => g.rt v H3 r (x1.trans (xx.trans y)), fun σ3 H3 e3 y j s3 h3 => h3.elim, fun σ3 H3 e3 y j s3 h3 => ⟨e3, xx.trans y, j, s3, h3⟩⟩
          · intro σ' H' ⟨e, x', i', s', iv⟩
            exact hd e iv σ' H' D i' s' (g.mono (x1.trans x'))
/-- a def from data to a new list -/
def spNew (K : PySem.W.Frag) (Pre : List PyData → Prop) (Rn : List PyData → List PyData → Prop) : Sp := fun vs H Q _ => ∃ (W : Wd) (ds : List PyData), W.I H ∧ DnAll W K H vs ds ∧ Pre ds ∧ ∀ p us es H', Rn ds es → Xt H H' → H p = none → H' p = some (.lst us) → DnAll (W.opn p) K H' us es → Q (.ref p) H'
theorem evf_new (fm : Fam P w K mg base N k sc F) {x : Str} {j : Nat} {ps : List Str} {Pre : List PyData → Prop} {Rn : List PyData → List PyData → Prop} {q pos : Pos} {e : Expr} {es : List Expr} {ds : List PyData} (o : Own P w K mg base x j ps (spNew K Pre Rn)) (hj : j ≤ k) (ha : A1 F W K (e :: es) env ds) (hr : Pre ds)
    (hg : glB sc x = true := by decide +kernel) (hdb : (x == ("__debug__" : Str)) = false := by decide) (st : ∀ i, starEach (e :: es) (F i).env = (false, eval e (F i).env) :: starEach es (F i).env := by intro _; rfl) (pl : ∀ i, (backTo pos (starEach es (F i).env)).any (·.1) = false := by intro _; rfl) :
    EvF F W K (.Call (.Name x q) (e :: es) [] pos) env (Rn ds) := by
  obtain ⟨f, fd, hm, hk, hb, G⟩ := o.ex
  intro σ H i sd Q qq
  refine ⟨tCall (spNew K Pre Rn) [] E0 (WA F (e :: es)), fun z => ?_, ?_⟩
  · have GG : FnG (F z).prog (F z).w (F z).K (F z).mg (F z).base j f fd ps (spNew K Pre Rn) := by rw [fm.pr z, fm.wo z, fm.kk z, fm.mg z, fm.ba z]; exact G
    exact pe_callG GG (fm.gu z) ((fm.ro z).mono hj) (gl_of (fm.es z) hg) (by rw [fm.mg z]; exact hm) (by rw [fm.kk z]; exact hk) (by rw [fm.kk z]; exact hb) .nil (wa_pa z) E0 hdb (st z) (pl z)
  · refine ha σ H i sd _ fun vs H1 rs x1 i1 d1 h1 => ?_
    subst h1
    show spNew K Pre Rn (vs ++ []) H1 Q E0
    rw [List.append_nil]
    refine ⟨W, ds, i1, dn_of_sd d1, hr, fun p us es H' hR xt hp hl dn => ?_⟩
    refine qq p us es H' (x1.trans (xt.wx W)) (W.mono _ _ i1 xt) (fun m => W.has H1 p i1 m hp) ?_ hl dn hR
    match hq : H p with
    | none => rfl
    | some o => exact absurd (x1 p o (fun m => W.has H1 p i1 m hp) hq) (by rw [hp]; exact fun c => nomatch c)
/-- the value alone, where its newness is of no matter -/
theorem ev_new (fm : Fam P w K mg base N k sc F) {x : Str} {j : Nat} {ps : List Str} {Pre : List PyData → Prop} {Rn : List PyData → List PyData → Prop} {q pos : Pos} {e : Expr} {es : List Expr} {ds : List PyData} (o : Own P w K mg base x j ps (spNew K Pre Rn)) (hj : j ≤ k) (ha : A1 F W K (e :: es) env ds) (hr : Pre ds)
    (hg : glB sc x = true := by decide +kernel) (hdb : (x == ("__debug__" : Str)) = false := by decide) (st : ∀ i, starEach (e :: es) (F i).env = (false, eval e (F i).env) :: starEach es (F i).env := by intro _; rfl) (pl : ∀ i, (backTo pos (starEach es (F i).env)).any (·.1) = false := by intro _; rfl) :
    Ev F W K (.Call (.Name x q) (e :: es) [] pos) env fun s => ∃ es, s = .dat (.list es) ∧ Rn ds es := by
  intro σ H i sd Q qq
  refine evf_new (W := W) (pos := pos) (q := q) fm o hj ha hr hg hdb st pl σ H i sd Q fun p us es H' xx i' np _ hl dn hR => ?_
  exact qq _ H' _ xx i' (Dn.dv (.lst ⟨np, hl⟩ (DnAll.to (W := W.opn p) (W' := W) (fun _ _ m => Or.inl m) dn))) ⟨es, rfl, hR⟩
theorem evf_sortK (fm : Fam P w K mg base N k sc F) {g xp : Str} {j : Nat} {Fn : List PyData → PyData → Prop} {e : Expr} {p p2 p3 pos : Pos} {ds : List PyData} (key : PyData → PyData) (o : Own P w K mg base g j [xp] (spF K Fn)) (hj : j + 2 ≤ k) (he : E1 F W K e env (.dat (.list ds)))
    (hF : ∀ d ∈ ds, Fn [d] (key d)) (hal : PySem.W.AllAlike (ds.map key)) (hsk : PySem.W.Sortable (ds.map key)) (hno : ∀ d ∈ ds, noDict (key d) = true ∧ (key d).depth ≤ 60) (hm : mg "sorted" = none) (hg : glB sc "sorted" = true := by decide +kernel) (hgg : glB sc g = true := by decide +kernel) (hdb : (g == ("__debug__" : Str)) = false := by decide)
    (st : ∀ i, backTo pos (starEach [e] (F i).env) = (false, eval e (F i).env) :: backTo pos (starEach [] (F i).env) := by intro _; rfl) (pl : ∀ i, (backTo pos (starEach [e] (F i).env)).any (·.1) = false := by intro _; rfl) (st2 : ∀ i, starEach [e] (F i).env = (false, eval e (F i).env) :: starEach [] (F i).env := by intro _; rfl)
    (q1 : ∀ i, (backToKw pos (keywordEach [⟨some "key", .Name g p2, p3⟩] (F i).env)).all (·.1.isSome) = true := by intro _; rfl) (q2 : ∀ i, (backToKw pos (keywordEach [⟨some "key", .Name g p2, p3⟩] (F i).env)).any (·.1.isNone) = false := by intro _; rfl) (q3 : ∀ i, (backToKw pos (keywordEach [⟨some "key", .Name g p2, p3⟩] (F i).env)).filterMap (·.1) = [Str.ofString "key"] := by intro _; rfl) :
    EvF F W K (.Call (.Name "sorted" p) [e] [⟨some "key", .Name g p2, p3⟩] pos) env fun es => es.Perm ds ∧ es.Pairwise fun a b => keyLe key a b = true := by
  obtain ⟨f, fd, hmg, hk, hb, G⟩ := o.ex
  intro σ H i sd Q q
  refine ⟨tCKw (rSortK W K f Fn) (tCons (WE F e) tNil) (tCons (tC (.ref f)) tNil), fun z => ?_, ?_⟩
  · have GG : FnG (F z).prog (F z).w (F z).K (F z).mg (F z).base j f fd [xp] (spF (F z).K Fn) := by rw [fm.pr z, fm.wo z, fm.kk z, fm.mg z, fm.ba z]; exact G
    have C := call_sortK (W := W) GG (fm.gu z) ((fm.ro z).mono hj) (by rw [fm.kk z]; exact hb)
    rw [fm.kk z] at C
    exact pe_callBK C (gl_of (fm.es z) hg) (by rw [fm.mg z]; exact hm) (by decide +kernel) (pa_cons (we_pe z) pa_nil (st2 z)) (pk_cons (pe_glob (gl_of (fm.es z) hgg) (by rw [fm.mg z]; exact hmg) rfl hdb) pk_nil) (by decide) (by decide) (st z) (pl z) (q1 z) (q2 z) (q3 z)
  · refine he σ H i sd _ fun v H1 r x1 i1 d1 h1 => ?_
    subst h1
    obtain ⟨u, z, n1⟩ := d1
    cases z
    cases n1 with
    | @lst _ xs _ a ra =>
      refine ⟨_, xs, ds, key, rfl, rfl, a.sq, ra, i1, hF, hal, hsk, hno, fun zs p H2 ez xt hp dn => ?_⟩
      have iH2 := W.mono _ _ i1 xt
      obtain ⟨np, x2, i2⟩ := W.new (o := .lst (zs.map (·.1))) iH2 hp
      have old : H p = none := by
        match hq : H p with
        | none => rfl
        | some o => exact absurd ((x1.trans (xt.wx W)) p o np hq) (by rw [hp]; exact fun c => nomatch c)
      have dn2 : DnAll (W.opn p) K H2 (zs.map (·.1)) (zs.map (·.2)) := DnAll.to (W := W) (W' := W.opn p) (fun a ha m => by
        rcases m with m | rfl
        · exact m
        · exact absurd hp ha) dn
      refine q p _ _ _ ((x1.trans (xt.wx W)).trans x2) i2 np old upd_same (DnAll.mono ((Xt.new hp).wx _) dn2) ⟨?_, ?_⟩
      · have e2 : (xs.zip ds).map Prod.snd = ds := List.map_snd_zip (Nat.le_of_eq ra.length.symm)
        have := (List.mergeSort_perm (xs.zip ds) (PySem.W.dataLe false fun q => key q.2)).map Prod.snd
        rw [e2] at this
        rw [ez]
        exact this
      · rw [ez, List.pairwise_map]
        exact PySem.W.sort_pairwise (le := PySem.W.dataLe false fun q : V × PyData => key q.2) (PySem.W.sortLe_total _ _ _) (xs.zip ds)
end
section
variable {P : Program} {w : World} {K : PySem.W.Frag} {mg : Str → Option Value} {base : Heap} {k : Nat} {x qual : Str} {st : Stmt} {f : Addr} {fd : FuncData} {N ps : List Str}
theorem fn_new {Pre : List PyData → Prop} {Rn : List PyData → List PyData → Prop} {e : Expr} {pos : Pos} (Fu : Fun K x qual st f fd) (S : FnScope N ps (defScope st)) (len : ∀ ds, Pre ds → ds.length = ps.length) (hb : defBody st = [.Return (some e) pos])
    (body : ∀ (cdv : Value) (A : Around) (fr : List Env) (s : Shared) (H : Hp) (E : XK) (W : Wd) (ds : List PyData), Fam P w K mg base N k (defScope st) (DF P w K mg base N qual (defScope st) f cdv A fr s H E) → Pre ds →
      EvF (DF P w K mg base N qual (defScope st) f cdv A fr s H E) W K e (startE N (ds.map .dat)) (Rn ds)) : FnG P w K mg base (k + 1) f fd ps (spNew K Pre Rn) := by
  obtain ⟨oc, od, kV, doc, pm, an, cdv, ct, osl, rfl, lk, hcd⟩ := Fu.ex
  refine fnG_of lk hcd S (fun vs H Q E ⟨W, ds, _, dn, hp, _⟩ => by rw [dn.length]; exact len ds hp) fun A fr s H vs Q E g hr hsp => ?_
  obtain ⟨W, ds, i, dn, hp, q⟩ := hsp
  have fm : Fam P w K mg base N k (defScope st) (DF P w K mg base N qual (defScope st) f cdv A fr s H E) := ⟨fun _ => rfl, S.kind, fun _ => rfl, fun _ => rfl, fun _ => rfl, fun _ => rfl, fun _ => rfl, fun _ => rfl, S.nd, fun _ => rfl, fun _ => g, fun _ => hr⟩
  refine ⟨WS (DF P w K mg base N qual (defScope st) f cdv A fr s H E) (defBody st), PSs.nox (X := cxOf CXn P w K mg base N qual (defScope st) f cdv A fr s H E) (ws_ps (F := DF P w K mg base N qual (defScope st) f cdv A fr s H E) ()), ?_⟩
  rw [hb]
  refine ⟨tSeq (tRet (WE (DF P w K mg base N qual (defScope st) f cdv A fr s H E) e)) tNext, fun z => pss_cons (ps_ret (we_pe z)) pss_nil, ?_⟩
  have same : ∀ a, H a ≠ none → (W.lock H).M a → W.M a := fun _ _ m => m
  exact body cdv A fr s H E (W.lock H) ds fm hp _ H ⟨i, fun _ _ => rfl⟩ (start_sd (sd_of_dn (dn.to same))) Q fun p us es H' xx ii np h0 hl dn' hR => q p us es H' hR (lock_xt xx ii) h0 hl (DnAll.to (W := (W.lock H).opn p) (W' := W.opn p) (fun _ _ m => m) dn')
end
end Cr

set_option Elab.async false
set_option linter.all false
set_option maxRecDepth 100000
set_option maxHeartbeats 4000000
namespace Cr
open PySem PySem.Spec PyProof.Rows L2
section
variable {ι : Type} {F : ι → Cx} {P : Program} {w : World} {K : PySem.W.Frag} {mg : Str → Option Value} {base : Heap} {N : List Str} {k : Nat} {sc : Scope} {W : Wd} {env : List Sl}
theorem lc_readRN {elt a : Expr} {ifs : List Expr} {scope : Scope} {j : Nat} {f : Nat → Bool} {R : Nat → PyData → Prop} (hi : EvA F W K [a] env fun rs => ∃ n : Nat, rs = [.dat (.int (n : Int))] ∧ n ≤ 1000)
    (ht : ∀ (i : Nat) D acc, ¬ W.M D → EvIf (FB F scope) (W.plus D (.lst acc)) K ifs ((env.set j .any).set j (.dat (.int (i : Int)))) (f i))
    (he : ∀ (i : Nat) D acc, f i = true → ¬ W.M D → Ev (FB F scope) (W.plus D (.lst acc)) K elt ((env.set j .any).set j (.dat (.int (i : Int)))) fun s => ∃ e, s = .dat e ∧ R i e)
    (σ : L2.St) (H : Hp) (ii : W.I H) (sd : Sd W K H σ env) (Q : VK) (q : ∀ v H' (n : Nat) es, n ≤ 1000 → Wx W H H' → W.I H' → Dn W K H' v (.list es) → Paired (fun i e => R i e) ((List.range n).filter f) es → Q v H') :
    tLc (iRng1 (WA F [a])) (gName j) (WTs (FB F scope) ifs) (WE (FB F scope) elt) [j] σ H Q := by
  refine hi σ H ii sd _ fun vs H1 r x1 i1 d1 h1 => ?_
  obtain ⟨n, rfl, hz⟩ := h1
  match vs, d1 with
  | [v], ⟨⟨u, e, dn⟩, _⟩ =>
    cases e
    cases dn
    refine ⟨(n : Int), rfl, by omega, by omega, fun D hD => ?_⟩
    exact lc_turnsR (n := ((n : Int).toNat)) i1 (sd.mono x1) hD (sz_small (by omega)) (fun i D acc _ nD => ht i D acc nD) (fun i D acc _ hf nD => he i D acc hf nD) fun H' es x' i' dn pr => q _ H' n es hz (x1.trans x') i' dn pr
theorem bd_lcRN (fm : Fam P w K mg base N k sc F) {x y : Str} {px py p pc pos spos : Pos} {elt a : Expr} {ifs : List Expr} {scope : Scope} {f : Nat → Bool} {R : Nat → PyData → Prop} {rest : List Stmt} {Po : Post} (l j : Nat) (hY : N[l]? = some y) (hN : N[j]? = some x) (o : lcB N sc scope x j = true) (hi : EvA F W K [a] env fun rs => ∃ n : Nat, rs = [.dat (.int (n : Int))] ∧ n ≤ 1000) (hm : mg "range" = none)
    (ht : ∀ (i : Nat) D acc, ¬ W.M D → Fam P w K mg base N k (relS scope sc) (FB F scope) → EvIf (FB F scope) (W.plus D (.lst acc)) K ifs ((env.set j .any).set j (.dat (.int (i : Int)))) (f i))
    (he : ∀ (i : Nat) D acc, f i = true → ¬ W.M D → Fam P w K mg base N k (relS scope sc) (FB F scope) → Ev (FB F scope) (W.plus D (.lst acc)) K elt ((env.set j .any).set j (.dat (.int (i : Int)))) fun s => ∃ e, s = .dat e ∧ R i e)
    (hr : ∀ (n : Nat) es, n ≤ 1000 → Paired (fun i e => R i e) ((List.range n).filter f) es → Bd F W K rest (env.set l (.dat (.list es))) Po) (hg : glB sc "range" = true := by decide +kernel) (st : ∀ i, starEach [a] (F i).env = [(false, eval a (F i).env)] := by intro _; rfl)
    (hl : lclB sc y = true := by decide +kernel) (sl : (py.line == pos.line) = true := by rfl) (sa : (scope.names.any fun (n, k) => n == y && (k == .local || k == .cell)) = false := by decide +kernel)
    (hf : ∀ i x, foldedSetIterable (.Call (.Name "range" p) [a] [] pc) (F i).env x = pure x := by intro _ _; rfl) : Bd F W K (.Assign [.Name y py] (.ListComp elt [⟨.Name x px, .Call (.Name "range" p) [a] [] pc, ifs, 0⟩] scope pos) spos :: rest) env Po := by
  intro σ H D ii sd g
  refine ⟨tSeq (tAsg (tLc (iRng1 (WA F [a])) (gName j) (WTs (FB F scope) ifs) (WE (FB F scope) elt) [j]) (gName l)) (WS F rest), fun z => ?_, lc_readRN hi (fun i D acc b => ht i D acc b (fm.blk scope (lc_kind o))) (fun i D acc b c => he i D acc b c (fm.blk scope (lc_kind o))) σ H ii sd (fun v H1 => gName l v σ H1 (WS F rest D)) fun v H' n es hz x' i' dn pr => hr n es hz pr _ _ _ i' (Sd.set dn.dv l (sd.mono x')) (g.mono x')⟩
  exact pss_cons (ps_setLc (own := [(x, j)]) (fm.ca z) (by rw [fm.nn z]; exact fm.nd) (by rw [fm.nn z]; exact hY) (lcl_of (fm.es z) hl) (sw_true (by rw [fm.es z]; exact fm.kd) (lcl_of (fm.es z) hl) sl sa) (pi_range1 (gl_of (fm.es z) hg) (by rw [fm.mg z]; exact hm) (wa_pa z) (st z)) (lc_ok fm o z) (fun s H C cl fp => lc_gName fm o hN z s H C cl fp) (fun s H C cl fp => wts_pts (F := FB F scope) (z, s, H, C, cl, fp)) (fun s H C cl fp => we_pe (F := FB F scope) (z, s, H, C, cl, fp)) (hf z)) (ws_ps z)
theorem e_listL (fm : Fam P w K mg base N k sc F) {e : Expr} {p pos : Pos} {ds : List PyData} (ha : A1 F W K [e] env [.list ds]) (hm : mg "list" = none) (hg : glB sc "list" = true := by decide +kernel)
    (st : ∀ i, starEach (e :: []) (F i).env = (false, eval e (F i).env) :: starEach [] (F i).env := by intro _; rfl) : E1 F W K (.Call (.Name "list" p) [e] [] pos) env (.dat (.list ds)) :=
  ev_callTy fm ha hm (c_listL fm) (hg := hg) (st := st)
end
theorem cut_init (es : List PyData) : cutD es none (some (-1)) = es.take (es.length - 1) := by
  unfold cutD
  have e1 : HT.sIx es.length 0 none = 0 := rfl
  have e2 : HT.sIx es.length es.length (some (-1)) = es.length - 1 := by
    show (if (-1 : Int) < 0 then ((-1 : Int) + (es.length : Int)).toNat else min (-1 : Int).toNat es.length) = _
    rw [if_pos (by decide)]
    omega
  rw [e1, e2, List.drop_zero, Nat.sub_zero]
theorem cut_tail (es : List PyData) : cutD es (some 1) none = es.drop 1 := by
  unfold cutD
  have e1 : HT.sIx es.length 0 (some 1) = min 1 es.length := by
    show (if (1 : Int) < 0 then ((1 : Int) + (es.length : Int)).toNat else min (1 : Int).toNat es.length) = _
    rw [if_neg (by decide)]
    rfl
  have e2 : HT.sIx es.length es.length none = es.length := rfl
  rw [e1, e2]
  cases es with
  | nil => rfl
  | cons x xs =>
    have : min 1 (x :: xs).length = 1 := by rw [List.length_cons]; omega
    rw [this]
    exact List.take_of_length_le (by simp)
/-- neighbours of a list that is in order -/
theorem pair_next {R : PyData → PyData → Prop} {es : List PyData} (h : es.Pairwise R) {i : Nat} {d d' : PyData} (h1 : (cutD es none (some (-1)))[i]? = some d) (h2 : (cutD es (some 1) none)[i]? = some d') : R d d' ∧ d ∈ es ∧ d' ∈ es := by
  rw [cut_init] at h1
  rw [cut_tail, List.getElem?_drop] at h2
  have h1' : es[i]? = some d := by
    rw [List.getElem?_take] at h1
    split at h1
    · exact h1
    · cases h1
  obtain ⟨l1, e1⟩ := List.getElem?_eq_some_iff.mp h1'
  obtain ⟨l2, e2⟩ := List.getElem?_eq_some_iff.mp h2
  refine ⟨?_, List.mem_of_getElem? h1', List.mem_of_getElem? h2⟩
  have := List.pairwise_iff_getElem.mp h i (1 + i) l1 l2 (by omega)
  rwa [e1, e2] at this
end Cr

set_option Elab.async false
set_option linter.all false
set_option maxRecDepth 100000
set_option maxHeartbeats 4000000
namespace Cr
open PySem PySem.Spec PyProof.Rows L2

/-! ## comprehensions over a tuple of data -/
section
variable {ι : Type} {F : ι → Cx} {P : Program} {w : World} {K : PySem.W.Frag} {mg : Str → Option Value} {base : Heap} {N : List Str} {k : Nat} {sc : Scope} {W : Wd} {env : List Sl}
theorem lc_turnsT {elt : Expr} {ifs : List Expr} {scope : Scope} {j : Nat} {ds : List PyData} {xs : List V} {a D : Addr} {H1 : Hp} {σ : L2.St} {f : Nat → Bool} {R : Nat → PyData → Prop} {Q : VK} (i1 : W.I H1) (sd : Sd W K H1 σ env) (la : TA' W K H1 a xs) (da : DnAll W K H1 xs ds) (hD : H1 D = none) (hz : ds.length ≤ sizeLine)
    (ht : ∀ i d D acc, ds[i]? = some d → ¬ W.M D → EvIf (FB F scope) (W.plus D (.lst acc)) K ifs ((env.set j .any).set j (.dat d)) (f i))
    (he : ∀ i d D acc, ds[i]? = some d → f i = true → ¬ W.M D → Ev (FB F scope) (W.plus D (.lst acc)) K elt ((env.set j .any).set j (.dat d)) fun s => ∃ e, s = .dat e ∧ R i e)
    (q : ∀ H' es, Wx W H1 H' → W.I H' → Dn W K H' (.ref D) (.list es) → Paired (fun i e => R i e) ((List.range ds.length).filter f) es → Q (.ref D) H') :
    ∃ Wl : Nat → Nat → Hp → Prop, (∃ m, Wl 0 m (upd H1 D (.lst []))) ∧ ∀ i m H, Wl i m H →
      ((Itt K a).stop i H ∧ Q (.ref D) H) ∨ ((Itt K a).go i H ∧ ∃ Nx : Hp → Prop, (∀ H', Nx H' → ∃ m', m' < m ∧ Wl (i + 1) m' H') ∧ ∀ x H', (Itt K a).yld i H x H' → gName j x (L2.wipe σ [j]) H' fun σ2 H2 => L2.wipe σ2 [j] = L2.wipe σ [j] ∧ WTs (FB F scope) ifs σ2 H2 fun b H3 =>
        if b = true then WE (FB F scope) elt σ2 H3 fun y H4 => ∃ acc, H4 D = some (.lst acc) ∧ acc.length < sizeLine ∧ Nx (upd H4 D (.lst (acc ++ [y]))) else Nx H3) := by
  have nD : ¬ W.M D := fun m => W.has H1 D i1 m hD
  refine lc_tup (K := K) (a := a) (xs := xs) (fun i H' => ∃ acc es, (W.plus D (.lst acc)).I H' ∧ Wx (W.plus D (.lst acc)) H1 H' ∧ DnAll (W.plus D (.lst acc)) K H' acc es ∧ Paired (fun i e => R i e) ((List.range i).filter f) es) ?_ ?_ ?_ ?_
  · exact ⟨[], [], ⟨W.mono _ _ i1 (Xt.new hD), upd_same⟩, fun p o _ h => Xt.new hD p o h, .nil, .nil⟩
  · intro i H' _ ⟨acc, es, _, x, _⟩
    have keep : ∀ p o, ¬ W.M p → H1 p = some o → H' p = some o := fun p o n h => x p o (fun m => m.elim n fun e => ne_of_none h hD e) h
    exact (TA'.mono keep la).sq
  · intro i x H' hx ⟨acc, es, ii, xx, dn, pr⟩
    obtain ⟨d, hd, dx⟩ := da.getV hx
    have to1 : ∀ b, H1 b ≠ none → (W.plus D (.lst acc)).M b → W.M b := plus_of hD
    have sd' : Sd (W.plus D (.lst acc)) K H' ((L2.wipe σ [j]).set j (some x)) ((env.set j .any).set j (.dat d)) := Sd.set ((dx.to to1).mono xx).dv j (((sd.to to1).wipe [j]).mono xx)
    refine ⟨wipe_set j, ?_⟩
    refine ht i d D acc hd nD _ H' ii sd' _ fun H3 x3 i3 => ?_
    have lt : acc.length ≤ i := by
      have l1 := dn.length
      have l2 := Paired.length pr
      have l3 := List.length_filter_le f (List.range i)
      rw [List.length_range] at l3
      omega
    have il : i < ds.length := (List.getElem?_eq_some_iff.mp hd).1
    cases hf : f i with
    | true =>
      refine he i d D acc hd hf nD _ H3 i3 (sd'.mono x3) _ fun y H4 r x4 i4 d4 h4 => ?_
      obtain ⟨e, rfl, hR⟩ := h4
      obtain ⟨u, z, dy⟩ := d4
      cases z
      have up : Wx (W.plus D (.lst acc)) H4 (upd H4 D (.lst (acc ++ [y]))) := fun p o n h => by
        rw [upd_ne fun z => n (Or.inr z)]
        exact h
      refine ⟨acc, i4.2, by omega, acc ++ [y], es ++ [e], ⟨W.loc _ _ i4.1 fun b m => upd_ne fun z => nD (z ▸ m), upd_same⟩, ?_, ?_, ?_⟩
      · intro p o n h
        exact up p o n (x4 p o n (x3 p o n (xx p o n h)))
      · refine DnAll.to (W := W.plus D (.lst acc)) (W' := W.plus D (.lst (acc ++ [y]))) (fun _ _ m => m) (DnAll.mono up ?_)
        exact ((dn.mono x3).mono x4).append (.cons dy .nil)
      · rw [List.range_succ, List.filter_append, List.filter_cons, if_pos hf]
        exact paired_app pr (.cons hR .nil)
    | false =>
      refine ⟨acc, es, i3, fun p o n h => x3 p o n (xx p o n h), dn.mono x3, ?_⟩
      rw [List.range_succ, List.filter_append, List.filter_cons, if_neg (by rw [hf]; exact Bool.false_ne_true)]
      show Paired _ (_ ++ []) es
      rw [List.append_nil]
      exact pr
  · intro H' ⟨acc, es, ii, xx, dn, pr⟩
    rw [da.length] at pr
    refine q H' es (fun p o n h => xx p o (fun m => m.elim n fun z => ?_) h) ii.1 ?_ pr
    · rw [z, hD] at h
      exact nomatch h
    · exact .lst ⟨nD, ii.2⟩ (DnAll.to (W := W.plus D (.lst acc)) (W' := W) (fun _ _ m => Or.inl m) dn)

theorem lc_readT {elt iter : Expr} {ifs : List Expr} {scope : Scope} {j : Nat} {ds : List PyData} {f : Nat → Bool} {R : Nat → PyData → Prop} (hi : E1 F W K iter env (.dat (.tuple ds))) (hz : ds.length ≤ sizeLine)
    (ht : ∀ i d D acc, ds[i]? = some d → ¬ W.M D → EvIf (FB F scope) (W.plus D (.lst acc)) K ifs ((env.set j .any).set j (.dat d)) (f i))
    (he : ∀ i d D acc, ds[i]? = some d → f i = true → ¬ W.M D → Ev (FB F scope) (W.plus D (.lst acc)) K elt ((env.set j .any).set j (.dat d)) fun s => ∃ e, s = .dat e ∧ R i e)
    (σ : L2.St) (H : Hp) (ii : W.I H) (sd : Sd W K H σ env) (Q : VK) (q : ∀ v H' es, Wx W H H' → W.I H' → Dn W K H' v (.list es) → Paired (fun i e => R i e) ((List.range ds.length).filter f) es → Q v H') :
    tLc (iTup K (WE F iter)) (gName j) (WTs (FB F scope) ifs) (WE (FB F scope) elt) [j] σ H Q := by
  refine hi σ H ii sd _ fun v H1 r x1 i1 d1 h1 => ?_
  subst h1
  obtain ⟨u, z, n1⟩ := d1
  cases z
  cases n1 with
  | tup la da =>
    refine ⟨_, rfl, ⟨_, la.sq⟩, fun D hD => ?_⟩
    exact lc_turnsT i1 (sd.mono x1) la da hD hz ht he fun H' es x' i' dn pr => q _ H' es (x1.trans x') i' dn pr
theorem ev_lcT (fm : Fam P w K mg base N k sc F) {x : Str} {px pos : Pos} {elt iter : Expr} {ifs : List Expr} {scope : Scope} {ds : List PyData} {f : Nat → Bool} {R : Nat → PyData → Prop} (j : Nat) (hN : N[j]? = some x) (o : lcB N sc scope x j = true) (hi : E1 F W K iter env (.dat (.tuple ds)))
    (ht : ∀ i d D acc, ds[i]? = some d → ¬ W.M D → Fam P w K mg base N k (relS scope sc) (FB F scope) → EvIf (FB F scope) (W.plus D (.lst acc)) K ifs ((env.set j .any).set j (.dat d)) (f i))
    (he : ∀ i d D acc, ds[i]? = some d → f i = true → ¬ W.M D → Fam P w K mg base N k (relS scope sc) (FB F scope) → Ev (FB F scope) (W.plus D (.lst acc)) K elt ((env.set j .any).set j (.dat d)) fun s => ∃ e, s = .dat e ∧ R i e)
    (hz : ds.length ≤ sizeLine) (hf : ∀ i x, foldedSetIterable iter (F i).env x = pure x := by intro _ _; rfl) :
    Ev F W K (.ListComp elt [⟨.Name x px, iter, ifs, 0⟩] scope pos) env fun s => ∃ es, s = .dat (.list es) ∧ Paired (fun i e => R i e) ((List.range ds.length).filter f) es := by
  intro σ H ii sd Q q
  refine ⟨_, fun z => ?_, lc_readT hi hz (fun i d D acc a b => ht i d D acc a b (fm.blk scope (lc_kind o))) (fun i d D acc a b c => he i d D acc a b c (fm.blk scope (lc_kind o))) σ H ii sd Q fun v H' es x' i' dn pr => q v H' _ x' i' dn.dv ⟨es, rfl, pr⟩⟩
  have h1 := pi_tup (tg := .Name x px) (we_pe (F := F) (e := iter) z)
  rw [fm.kk z] at h1
  exact pe_lc (own := [(x, j)]) (fm.ca z) (by rw [fm.nn z]; exact fm.nd) h1 (lc_ok fm o z) (fun s H C cl fp => lc_gName fm o hN z s H C cl fp) (fun s H C cl fp => wts_pts (F := FB F scope) (z, s, H, C, cl, fp)) (fun s H C cl fp => we_pe (F := FB F scope) (z, s, H, C, cl, fp)) (hf z)

/-! ## tuple(l) -/
theorem c_tupL (fm : Fam P w K mg base N k sc F) {ds : List PyData} : C1 F W K (.type "tuple") [.list ds] (.tuple ds) := by
  intro H vs ii dn Q q
  cases dn with
  | cons d1 t =>
    cases t
    cases d1 with
    | lst a r =>
      refine ⟨_, fun i => by have := call_tuple_of (X := F i); rwa [fm.kk i] at this, ?_⟩
      refine ⟨_, _, rfl, Or.inl ⟨a.sq, fun l hl => ?_⟩⟩
      obtain ⟨x2, i2, d2⟩ := new_tup ii hl r
      exact q _ _ _ x2 i2 d2.dv rfl
theorem e_tupL (fm : Fam P w K mg base N k sc F) {e : Expr} {p pos : Pos} {ds : List PyData} (ha : A1 F W K [e] env [.list ds]) (hm : mg "tuple" = none) (hg : glB sc "tuple" = true := by decide +kernel)
    (st : ∀ i, starEach (e :: []) (F i).env = (false, eval e (F i).env) :: starEach [] (F i).env := by intro _; rfl) : E1 F W K (.Call (.Name "tuple" p) [e] [] pos) env (.dat (.tuple ds)) :=
  ev_callTy fm ha hm (c_tupL fm) (hg := hg) (st := st)
theorem e_tupN (fm : Fam P w K mg base N k sc F) {e : Expr} {p pos : Pos} {R : List PyData → Prop} (ha : Ev F W K e env fun s => ∃ ds, s = .dat (.list ds) ∧ R ds) (hm : mg "tuple" = none) (hg : glB sc "tuple" = true := by decide +kernel)
    (st : ∀ i, starEach (e :: []) (F i).env = (false, eval e (F i).env) :: starEach [] (F i).env := by intro _; rfl) : Ev F W K (.Call (.Name "tuple" p) [e] [] pos) env fun s => ∃ ds, s = .dat (.tuple ds) ∧ R ds := by
  intro σ H i sd Q q
  refine ⟨tCB (WC F (.type "tuple")) (WA F [e]), fun z => pe_callTy (wc_call z) (gl_of (fm.es z) hg) (by rw [fm.mg z]; exact hm) (by decide +kernel) (wa_pa z) (by decide) (by decide) (st z) (by rfl), ?_⟩
  refine (ea_cons ha ea_nil (st := st)) σ H i sd _ fun vs H1 rs x1 i1 d1 h1 => ?_
  obtain ⟨_, _, rfl, ⟨ds, rfl, hR⟩, rfl⟩ := h1
  exact c_tupL fm H1 vs i1 (dn_of_sd (ds := [.list ds]) d1) Q fun v H' r x' i' d h => q v H' r (x1.trans x') i' d ⟨ds, h, hR⟩

/-! ## longer chains of and, or -/
theorem ev_andS {a b : Expr} {l : List Expr} {pos : Pos} {c d : Bool} (ha : E1 F W K a env (.dat (.bool c))) (t : c = true → E1 F W K (.BoolOp .And (b :: l) pos) env (.dat (.bool d))) : E1 F W K (.BoolOp .And (a :: b :: l) pos) env (.dat (.bool (c && d))) :=
  ev_and ha (fun h => (t h).imp fun r z => by rw [z, h]; rfl) fun h => by rw [h]; rfl
theorem et_and3 {a b x : Expr} {pos : Pos} {c d e : Bool} (ha : T1 F W K a env c) (hb : c = true → T1 F W K b env d) (hx : c = true → d = true → T1 F W K x env e) : T1 F W K (.BoolOp .And [a, b, x] pos) env (c && (d && e)) :=
  et_w (ew_and ha (fun z => ew_and (hb z.symm) (fun y => ew_and1 ((hx z.symm y.symm).imp fun r q => by rw [← z, ← y, q]; rfl)) fun y => by rw [← z, ← y]; rfl) fun z => by rw [← z]; rfl)
theorem ev_and1 {a : Expr} {pos : Pos} {c : Bool} (ha : E1 F W K a env (.dat (.bool c))) : E1 F W K (.BoolOp .And [a] pos) env (.dat (.bool c)) := ev_one ha
end
end Cr

set_option Elab.async false
set_option linter.all false
set_option maxRecDepth 100000
set_option maxHeartbeats 4000000
namespace Cr
open PySem PySem.Spec PyProof.Rows L2
section
variable {ι : Type} {F : ι → Cx} {P : Program} {w : World} {K : PySem.W.Frag} {mg : Str → Option Value} {base : Heap} {N : List Str} {k : Nat} {sc : Scope} {W : Wd} {env : List Sl}
theorem kv_not {H : Hp} {x : Str} : ∀ {ks : List Str} {ds : List PyData} {vs : List V}, DnAll W K H vs ds → (ks.zip ds).lookup x = none → valV (txtKv ks vs) (.inr x) = none
  | [], _, vs, _, _ => by
    unfold txtKv valV
    simp
  | y :: ks, [], _, h, _ => by
    cases h
    unfold txtKv valV
    simp
  | y :: ks, dy :: ds, _, h, e => by
    cases h with
    | @cons v vs _ _ a t =>
      rw [List.zip_cons_cons, List.lookup_cons] at e
      by_cases c : y = x
      · subst c
        simp at e
      · rw [show (x == y) = false from beq_eq_false_iff_ne.mpr (Ne.symm c)] at e
        have h1 := kv_not t e
        unfold txtKv valV at h1 ⊢
        rw [List.zip_cons_cons, List.map_cons, List.find?_cons_of_neg]
        · exact h1
        · intro z
          have z := of_decide_eq_true z
          injection z with z
          exact c z
/-- .get: {'a': .., 'b': ..}[key] -/
theorem ev_dispGetM (fm : Fam P w K mg base N k sc F) {keys : List (Option Expr)} {es : List Expr} {ke : Expr} {dpos apos pos : Pos} {ds : List PyData} {x : Str} {d : PyData} (ks : List Str) (hk : keys = (ks.zip (posOf keys)).map fun p => some (.Constant (.str p.1) 0 p.2)) (l1 : ks.length = es.length) (l2 : (posOf keys).length = ks.length) (nd : ks.Nodup) (n0 : 0 < ks.length) (n1 : ks.length ≤ 15)
    (hv : ∀ D, ¬ W.M D → EvP F (W.plus D (.dK [])) K es env ds) (hx : E1 F W K ke env (.dat (.str x))) (hd : ((ks.zip ds).lookup x).getD .none = d) (hm : ∀ i, M1 (F i) (.Dict keys es dpos) "get" apos ke pos := by exact fun _ => ⟨rfl, rfl, rfl, rfl⟩) : E1 F W K (.Call (.Attribute (.Dict keys es dpos) "get" apos) [ke] [] pos) env (.dat d) := by
  intro σ H i sd Q q
  have len : keys.length = ks.length := by unfold posOf at l2; rwa [List.length_map] at l2
  refine ⟨tDGet1 (tDisp (trsOf F ks es)) (WE F ke), fun z => pe_dget1 (by have := (fm.ro z).units; omega) (pe_disp (Eq.mpr (congrArg (fun q => PPs (F z) dpos q es (trsOf F ks es)) hk) (pps_of z l1 l2)) ?_ (by rw [len, l1]) ?_ (by rw [len]; exact n1)) (we_pe z) (hm z), ?_⟩
  · refine List.all_eq_true.mpr fun q hq => ?_
    rw [hk] at hq
    obtain ⟨r, _, e⟩ := List.mem_map.mp hq
    rw [← e] <;> rfl
  · intro c
    rw [c] at len
    simp at len
    omega
  · intro p hp
    obtain ⟨np, xp, ip⟩ := W.new (o := .dK []) i hp
    have sd2 : Sd (W.plus p (.dK [])) K (upd H p (.dK [])) σ env := (sd.to (plus_of hp)).mono fun b o _ h => Xt.new hp b o h
    refine hv p np ks l1 σ _ ⟨ip, upd_same⟩ sd2 _ fun vs H2 x2 i2 dn => ?_
    have keep : ∀ b o, ¬ W.M b → H b = some o → upd H2 p (.dK (txtKv ks vs)) b = some o := fun b o n h => by
      have nb : b ≠ p := ne_of_none h hp
      rw [upd_ne nb]
      exact x2 b o (fun m => m.elim n nb) (Xt.new hp b o h)
    refine ⟨i2.2, txtKv ks vs, ?_, ?_, ?_⟩
    · unfold txtKv
      rw [List.map_map] <;> rfl
    · unfold txtKv
      rw [List.length_map, List.length_zip]
      omega
    · rw [merge_app _ _ (txt_nodup nd)]
      refine ⟨p, rfl, Or.inl ⟨txtKv ks vs, Or.inl upd_same⟩, ?_⟩
      show WE F ke σ (upd H2 p (.dK (txtKv ks vs))) _
      refine hx σ _ (W.loc _ _ i2.1 fun b m => upd_ne (show b ≠ p from fun z => np (by rw [← z]; exact m))) (sd.mono keep) _ fun y H4 r x4 i4 d4 h4 => ?_
      subst h4
      obtain ⟨u, z, n4⟩ := d4
      cases z
      cases n4
      have up : Wx (W.plus p (.dK [])) H2 (upd H2 p (.dK (txtKv ks vs))) := fun b o n h => by
        rw [upd_ne fun z => n (Or.inr z)]
        exact h
      have dn4 : DnAll W K H4 vs ds := DnAll.mono x4 (DnAll.to (W := W.plus p (.dK [])) (W' := W) (fun _ _ m => Or.inl m) (dn.mono up))
      have e4 : H4 p = some (.dK (txtKv ks vs)) := x4 p _ np upd_same
      have fin : ∃ v, (valV (txtKv ks vs) (.inr x)).getD .non = v ∧ Dn W K H4 v d := by
        cases hl : (ks.zip ds).lookup x with
        | some d' =>
          rw [hl] at hd
          subst hd
          obtain ⟨v, hv1, hv2⟩ := kv_get dn4 hl
          exact ⟨v, by rw [hv1]; rfl, hv2⟩
        | none =>
          rw [hl] at hd
          subst hd
          exact ⟨.non, by rw [kv_not dn4 hl]; rfl, .non⟩
      obtain ⟨v, hv1, hv2⟩ := fin
      refine ⟨_, DGet.k (k := .inr x) e4, ?_⟩
      rw [hv1]
      exact q v H4 _ (fun b o n h => x4 b o n (keep b o n h)) i4 hv2.dv rfl
theorem bd_env {b : List Stmt} {env env' : List Sl} {Po : Post} (e : env = env') (h : Bd F W K b env' Po) : Bd F W K b env Po := e ▸ h
end
end Cr

set_option Elab.async false
set_option linter.all false
set_option maxRecDepth 100000
set_option maxHeartbeats 4000000
namespace Cr
open PySem PySem.Spec PyProof.Rows L2
section
variable {ι : Type} {F : ι → Cx} {P : Program} {w : World} {K : PySem.W.Frag} {mg : Str → Option Value} {base : Heap} {N : List Str} {k : Nat} {sc : Scope} {W : Wd} {env : List Sl}
/-- while -/
theorem bd_while {c : Expr} {pos : Pos} {body rest : List Stmt} {Po : Post} (Iv : Nat → List Sl → Prop) (m0 : Nat) (h0 : Iv m0 env)
    (hs : ∀ m env1, Iv m env1 → ∃ t, T1 F W K c env1 t ∧ (t = true → Bd F W K body env1 { Po with nx := fun e => ∃ m', m' < m ∧ Iv m' e, ct := fun e => ∃ m', m' < m ∧ Iv m' e, bk := fun e => Bd F W K rest e Po }) ∧ (t = false → Bd F W K rest env1 Po))
    (hp : ∀ i, PassesOwn (model (F i).prog (F i).w) (F i).A (F i).env (F i).xe := by intro _; exact PassesOwn.never) : Bd F W K (.While c body [] pos :: rest) env Po := by
  intro σ H D ii sd g
  refine ⟨tSeq (tWhile (WT F c) (WS F body)) (WS F rest), fun z => pss_cons (ps_while (hp z) (wt_pt z) (ws_ps z)) (ws_ps z), ?_⟩
  refine ⟨fun m σ' H' => ∃ e, Wx W H H' ∧ W.I H' ∧ Sd W K H' σ' e ∧ Iv m e, ⟨m0, env, Wx.refl W H, ii, sd, h0⟩, ?_⟩
  rintro m σ1 H1 ⟨e, x1, i1, s1, iv⟩
  obtain ⟨t, ht, h1, h2⟩ := hs m e iv
  refine ht σ1 H1 i1 s1 _ fun b H2 x2 i2 eb => ?_
  subst eb
  cases b with
  | true =>
    refine ⟨fun σ' H' => ∃ m', m' < m ∧ ∃ e, Wx W H H' ∧ W.I H' ∧ Sd W K H' σ' e ∧ Iv m' e, fun σ' H' h => h, ?_⟩
    exact h1 rfl σ1 H2 _ i2 (s1.mono x2) ⟨fun σ3 H3 e3 y j s3 ⟨m', l, h3⟩ => ⟨m', l, e3, (x1.trans x2).trans y, j, s3, h3⟩, fun v H3 r y => g.rt v H3 r ((x1.trans x2).trans y), fun σ3 H3 e3 y j s3 h3 => h3 σ3 H3 D j s3 (g.mono ((x1.trans x2).trans y)), fun σ3 H3 e3 y j s3 ⟨m', l, h3⟩ => ⟨m', l, e3, (x1.trans x2).trans y, j, s3, h3⟩⟩
  | false => exact h2 rfl σ1 H2 D i2 (s1.mono x2) (g.mono (x1.trans x2))
end
end Cr

set_option Elab.async false
set_option linter.all false
set_option maxRecDepth 100000
set_option maxHeartbeats 4000000
/-! # an own error whose __init__ says super().__init__(f".. {f}") and stores f -/
namespace PySem
namespace SupX
open PySem.W PySem.Calls PyProof.Rows PySem.HandSPX
def iA (p1 p2 : Pos) : Arguments := { posonlyargs := [], args := [{ arg := "self", annotation := none, pos := p1 }, { arg := "place", annotation := none, pos := p2 }], vararg := none, kwonlyargs := [], kw_defaults := [], kwarg := none, defaults := [] }
def iE (q1 q2 q3 q4 q5 q6 q7 q8 : Pos) (m : Str) (j : Nat) : Expr := .Call (.Attribute (.Call (.Name "super" q1) [] [] q2) "__init__" q3) [.JoinedStr [.Constant (.str m) j q4, .FormattedValue (.Name "place" q5) (-1) none q6] q7] [] q8
def iB (q1 q2 q3 q4 q5 q6 q7 q8 q9 q10 q11 q12 q13 : Pos) (m : Str) (j : Nat) : List Stmt := [.Expr (iE q1 q2 q3 q4 q5 q6 q7 q8 m j) q9, .Assign [.Attribute (.Name "self" q10) "place" q11] (.Name "place" q12) q13]
def iS : Scope := { kind := .function, names := [(PySem.Str.ofString "self", .local), (PySem.Str.ofString "place", .local), (PySem.Str.ofString "__class__", .free), (PySem.Str.ofString "super", .globalImplicit)], isGenerator := false, isCoroutine := false, more := [] }
structure SupTxt (P : Program) (K : Frag) (mg : Str → Option Value) (x m : Str) (C fI : Addr) : Prop where
  gC : mg x = some (.ref C)
  cls : ∃ nm q N bs bm sn sub ab col dd k0 k1 k2 k3 k5, K.lookup C = some (excClassObj nm q C N bs bm true sn sub ab col dd k0 k1 k2 k3 k5 "ValueError.__new__") ∧ refsVE bm = true
  sa : findIn K (.ref C) "__setattr__" = some (some (.builtin "object.__setattr__"))
  ga : findIn K (.ref C) "__getattribute__" = some (some (.builtin "BaseException.__getattribute__"))
  gg : findIn K (.ref C) "__getattr__" = some none
  noN : findIn K (.ref C) "place" = some none
  iC : findIn K (.ref C) "__init__" = some (some (.ref fI))
  tC : typeIn K (.ref fI) = some (.type "function")
  kC : keepIn K (.ref C) = true
  exC : subIn K (.ref C) (.type "BaseException") = some true
  vEC : subIn K (.ref C) (.type "ValueError") = some true
  selfC : mroIn K C (.ref C) = some true
  tyC : typeIn K (.ref C) = some (.type "type")
  hdC : hasDictIn K C = true
  te : exmOne K (.ref C) (.ref C) = some true
  sin : ks_superIn K C C "__init__" = some (some (.builtin "ValueError.__init__"))
  opq : nsIn K cStatics "thirdparty.any" = some none
  sup : mg "super" = none
  top : (P.main.scope.names.lookup ("super" : Str)).isSome = false
  mz : m.length ≤ 1000
  fn : ∃ (oc : Value) (od : Option Addr) (q : Str) (doc pm : Value) (an : Option Addr) (cda : Addr) (ct : Value) (cc : Addr) (osl : Array (Option Value)) (p1 p2 q1 q2 q3 q4 q5 q6 q7 q8 q9 q10 q11 q12 q13 : Pos) (j : Nat),
    K.lookup fI = some ⟨oc, od, .func (ksFn "__init__" q (iA p1 p2) (iB q1 q2 q3 q4 q5 q6 q7 q8 q9 q10 q11 q12 q13 m j) iS .none .none doc pm an (.ref cda) ct cc), osl⟩ ∧ codeIn K (.ref cda) q = true ∧
    (∃ ccl cdd vs ccs file tf, K.lookup cda = some ⟨ccl, cdd, .fields vs, ccs⟩ ∧ vs[2]? = some (.str file tf) ∧ ((P.main.file : Str) == file) = true) ∧
    (∃ cl cld csl, K.lookup cc = some ⟨cl, cld, .cell (some (.ref C)), csl⟩) ∧ (q9.line == q8.line) = true ∧ (q3.endLine == q8.line) = true
theorem one_size (v : Value) : [v].length ≤ sizeLine := by
  rw [sizeLine_eq]
  exact (by decide : 1 ≤ 16777216)
/-- what __init__ leaves of a fresh exception at x -/
structure InitEnd (h h' : Heap) (x C dx t1 : Addr) (v : Value) : Prop where
  keep : ∀ b o, b ≠ x → h.get? b = some o → h'.get? b = some o
  obj : h'.get? x = some { cls := .ref C, dict := some dx, data := .fields #[.ref t1, .none, .none, .none, .bool false, .none] }
  dbig : h.objs.size ≤ dx
  dne : dx ≠ x
  ns : h'.Ns1 dx (fun y => if y = "place" then some v else none)
structure OwnMade (h h' : Heap) (e C d : Addr) (v : Value) : Prop where
  keep : ∀ b o, h.get? b = some o → h'.get? b = some o
  new : h.objs.size ≤ e
  obj : ∃ oe vs, h'.get? e = some oe ∧ oe.cls = .ref C ∧ oe.dict = some d ∧ oe.data = .fields vs ∧ vs[1]? = some .none
  dbig : h.objs.size ≤ d
  dne : d ≠ e
  ns : h'.Ns1 d (fun y => if y = "place" then some v else none)
section
variable {prog : Program} {w : World} {A : Around} {E : Value → Shared → Prop} {h : Heap} {g : Array GenState} {d : Drawn} {t : Nat} {os : OsState}
variable {nm q : Str} {C N : Addr} {bs bm : List Value} {hdct : Bool} {sn : List Str} {sub : List Value} {ab : Bool} {col : Option Bool} {dd : Option Addr} {k0 k1 k2 k3 k5 : Option Value}
theorem call_mw {u e t0 : Addr} {rest : List Value} {Q : Value → Shared → Prop}
    (hC : h.get? C = some (excClassObj nm q C N bs bm hdct sn sub ab col dd k0 k1 k2 k3 k5 "ValueError.__new__")) (he : h.get? e = some (excO C t0)) (hu : h.get? u = some (kxs_mw "ValueError.__init__" e)) (hrest : rest.length ≤ sizeLine)
    (hq : ∀ h' t1, (∀ b o, b ≠ e → h.get? b = some o → h'.get? b = some o) → h'.get? e = some (excO C t1) → Q .none ⟨h', g, d, t, os⟩) :
    wpAny (model prog w) A (call (.ref u) rest) Q E ⟨h, g, d, t, os⟩ := by
  refine wpAny_call (codeAny_of_tree ?_)
  show wpAny _ A.in1 (callAny (.ref u) ⟨rest, []⟩) _ _ _
  simp only [callAny]
  refine wpAny_bind (wpAny_load hu ?_)
  simp only [kxs_mw, show (Value.type "method-wrapper" == Value.type "method" || Value.type "method-wrapper" == Value.type "builtin_function_or_method" || Value.type "method-wrapper" == Value.type "method-wrapper") = true by decide, if_true]
  refine W.KFB.if_so (by decide) ?_
  refine wpAny_bind (PySem.ESX.check_bound F.excBase_ValueError hC he rfl ?_)
  refine wpAny_bind (wpAny_pure (wpAny_pure ?_))
  refine ⟨Code.quiet_builtin _ (by decide +kernel), codeAny_builtin F.excBase_ValueError.initEntry ?_⟩
  rw [Around.under_plainId F.excBase_ValueError.init.plain _]
  wp_walk
  refine hq _ h.objs.size (fun b o hb ho => ?_) ?_
  · rw [Heap.get?_update_other _ _ (Ne.symm hb)]
    exact Heap.get?_push_of_some _ ho
  · rw [Heap.get?_update_self _ (Heap.get?_push_of_some _ he) rfl]
    rfl
end
end SupX
end PySem

set_option Elab.async false
set_option linter.all false
set_option maxRecDepth 100000
set_option maxHeartbeats 4000000
namespace PySem
namespace SupX
open PySem.W PySem.Calls PyProof.Rows PySem.HandSPX
section
variable {M : Model} {A : Around} {c : Code} {E : Value → Shared → Prop} {s : Shared} {env : Env}
theorem wpAt_MethodL {o e : Expr} {name : Str} {apos pos : Pos} {Q : Value → Shared → Prop} (hl : (apos.endLine == pos.line) = true) (htrees : backTo pos (starEach [e] env) = [(false, eval e env)])
    (h : wpAt M A c (attributeBase o name env (eval o env)) (fun ov s₁ => ∀ pl : Sem Bool, wpAny M A (getMethod ov name pl) (fun fx s₂ => wpAny M A (callWith pos fx.1 fx.2 (backTo pos (starEach [e] env)) []) Q E s₂) E s₁) E s) :
    wpAt M A c (eval (.Call (.Attribute o name apos) [e] [] pos) env) Q E s := by
  rw [arm_eval_Call]
  have hform : methodCallForm (([e] : List Expr).length + ([] : List Keyword).length) (backTo pos (starEach [e] env)) (backToKw pos (keywordEach [] env)) = true := by rw [htrees]; rfl
  have hpos : methodCallPos true o env apos pos = pure pos := by unfold methodCallPos; simp [hl]
  refine wpAt_bind (ks_wpAt_mono h (fun ov s₁ h₁ => wpAt_of_wpAny (wpAny_bind (wpAny_standAt ?_))) fun _ _ x => x)
  unfold methodCall
  rw [hform]
  refine wpAny_bind (wpAny_holding ?_)
  show wpAny _ _ (getMethod ov name _) _ _ _
  exact wpAny_mono (h₁ _) (fun fx s₂ h₂ => wpAny_bind (wpAny_of_eq hpos h₂)) fun _ _ x => x
end
section
variable {prog : Program} {w : World} {A : Around} {E : Value → Shared → Prop} {R : Result → Shared → Prop} {s : Shared} {K : Frag} {mg mb : Str → Option Value} {C fI : Addr} {xn m : Str}
theorem subC {h : Heap} {M : Model} (T : SupTxt prog K mg xn m C fI) (X : K.In h) : Looks M h (isSubtype (.ref C) (.ref C)) true := looks_mroIn X T.selfC
theorem sup_init (T : SupTxt prog K mg xn m C fI) {x t0 : Addr} {i : Int} {ti : Tok} (X : K.In s.heap) (hlim : s.heap.NoLimit) (G : s.heap.Ns mainGlobals mg) (B : s.heap.Ns builtinsNs mb) (hB : ∀ x : Str, x ≠ "__name__" → mb x = bootBuiltins x) (hi : i.natAbs.log2 < 1920)
    (hx : s.heap.get? x = some (excO C t0)) (hnx : K.lookup x = none) (hroom : A.depth < recursionLimit)
    (hq : ∀ h' tk dx t1, InitEnd s.heap h' x C dx t1 (.int i ti) → R (.ok (.ret .none)) { s with heap := h', toks := tk }) :
    codeAny (model prog w) A (.call (.ref fI) ⟨[.ref x, .int i ti], []⟩) R s := by
  obtain ⟨oc, od, q, doc, pm, an, cda, ct, cc, osl, p1, p2, q1, q2, q3, q4, q5, q6, q7, q8, q9, q10, q11, q12, q13, j, ho, hcd, ⟨ccl, cdd, vs, ccs, file, tf, hcda, hvs, hfile⟩, ⟨cl, cld, csl, hcell⟩, hln, hln2⟩ := T.fn
  obtain ⟨nm, qc, N, bs, bm, sn, sub, ab, col, dd, k0, k1, k2, k3, k5, hC, hbm⟩ := T.cls
  have hcl : clsIn K C = some { name := nm, bases := bs, mro := .ref C :: bm, ns := N, qualname := qc, hasDict := true, slotNames := sn, subclasses := sub, abstract := ab, collection := col, hasDel := false } := by unfold clsIn; rw [hC] <;> rfl
  refine ks_codeAny_call_defAt (fd := ksFn "__init__" q (iA p1 p2) (iB q1 q2 q3 q4 q5 q6 q7 q8 q9 q10 q11 q12 q13 m j) iS .none .none doc pm an (.ref cda) ct cc) (binds := [("self", .ref x), ("place", .int i ti)]) hroom (X _ _ ho) rfl hlim (codeRec_of X hcd) rfl (BindsTo.of_eq (by first | rfl | with_unfolding_all rfl)) (show ∀ x ∈ iS.names, x.2 ≠ .cell by decide) (fun y hy => by
      rcases List.mem_cons.mp hy with rfl | hy
      · rfl
      · rcases List.mem_cons.mp hy with rfl | hy
        · rfl
        · exact absurd hy List.not_mem_nil) (fun h₁ hns k => ?_) rfl rfl rfl
  have X₁ : K.In h₁ := X.keeps k
  have hx₁ := k _ _ hx
  have hxL : s.heap.objs.size ≠ x := Nat.ne_of_gt (Heap.lt_size hx)
  have hns0 : ∀ {h₂ : Heap} , (∀ b o, b ≠ x → h₁.get? b = some o → h₂.get? b = some o) → h₂.Ns s.heap.objs.size (fun y => ([("self", Value.ref x), ("place", Value.int i ti)] : List (Str × Value)).reverse.lookup y) := fun {h₂} kk => by
    obtain ⟨o, es, ep, z, dd2, rr⟩ := hns
    exact ⟨o, es, ep, kk _ _ hxL z, dd2, rr⟩
  show wpAt _ _ _ (execs (.Expr (iE q1 q2 q3 q4 q5 q6 q7 q8 m j) q9 :: _) _) _ _ _
  refine ks_wpAt_execs_cons (ks_wpAt_Expr_any (wpAt_MethodL hln2 rfl ?_) (by rfl) (by rfl))
  refine ks_wpAt_super_base (f := fI) (cc := cda) (ar := { arg := "self", annotation := none, pos := p1 }) rfl rfl rfl rfl (k _ _ (X _ _ ho)) rfl rfl rfl (k _ _ (X _ _ hcda)) rfl hvs hfile T.top ?_
  refine ks_loadName_global rfl rfl (loadGlobal_builtin (G.keeps k) T.sup (B.keeps k) ((hB _ (by decide)).trans (by decide +kernel : bootBuiltins "super" = some (.type "super"))) ⟨rfl, ?_⟩)
  refine wpAny_loadName_free (v := .ref C) rfl rfl rfl ⟨_, k _ _ (X _ _ hcell), rfl⟩ ?_
  refine wpAny_loadName_local (v := .ref x) rfl rfl hns (by rfl) ?_
  refine ks_wpAny_isType_cls (k _ _ (X _ _ hC)) rfl ⟨rfl, ?_⟩
  refine ks_wpAny_call_super (k _ _ (X _ _ hC)) rfl hx₁ rfl (fun c z => by cases z) (subC T X₁) (fun h₂ e2 kS pl => ?_)
  have X₂ : K.In h₂ := X₁.keeps kS
  have hx₂ := kS _ _ hx₁
  have I₂ : InstAt h₂ x (excO C t0) C none := ⟨hx₂, rfl, rfl, trivial⟩
  refine kxs_getMethod (x := x) (C := C) (l := (((Value.ref C :: bm).dropWhile (· != .ref C)).drop 1)) kxs_ValueError e2 (looks_opaque X₂ T.opq) (l₀ := .ref C :: bm) ?hmro rfl X₂ ?halong (I₂.type.andThen (looks_subIn X₂ T.vEC)) (ks_ne X₂ I₂ hcl) rfl ?_
  case hmro => exact fun A Q E s k q => wpAny_bind ((looks_clsIn X₂ hcl) A _ E s k (wpAny_pure q))
  case halong =>
    have := T.sin
    unfold ks_superIn at this
    rw [hcl] at this
    exact this
  -- the argument
  have hcs : (h₂.push (kxs_mw "ValueError.__init__" x)).get? C = some (excClassObj nm qc C N bs bm true sn sub ab col dd k0 k1 k2 k3 k5 "ValueError.__new__") := Heap.get?_push_of_some _ (kS _ _ (k _ _ (X _ _ hC)))
  have hx3 : (h₂.push (kxs_mw "ValueError.__init__" x)).get? x = some (excO C t0) := Heap.get?_push_of_some _ hx₂
  have k3' : ∀ b o, h₁.get? b = some o → (h₂.push (kxs_mw "ValueError.__init__" x)).get? b = some o := fun b o e => Heap.get?_push_of_some _ (kS b o e)
  have hns3 := hns0 (h₂ := h₂.push (kxs_mw "ValueError.__init__" x)) fun b o _ e => k3' b o e
  refine kxs_callWith (i := "ValueError.__init__") (x := x) rfl (evalArgs_plain (spliced_cons ?_))
  refine wpAny_JoinedStr (pos := q7) ?_
  refine wpAny_Constant_str (k := j) (pos := q4) ?_
  refine ⟨m, _, rfl, ?z1, ?_⟩
  case z1 => show (Str.empty ++ m).length ≤ sizeLine; rw [strLen_append, sizeLine_eq]; have := T.mz; show 0 + _ ≤ _; omega
  refine wpAny_FormattedValue_plain (pos := q6) ?_
  refine wpAny_Name (pos := q5) ?_ (by decide)
  refine wpAny_loadName_local (v := .int i ti) rfl rfl hns3 (by rfl) ?_
  have ez : (Str.empty ++ m ++ (toString i : Str)).length ≤ sizeLine := by
    have a1 := int_text_length_le (k := 1920) (by decide) hi
    have a2 := T.mz
    rw [strLen_append, strLen_append, sizeLine_eq]
    have a3 : ((toString i : Str)).length = (toString i).length := ofString_length _
    show 0 + _ + _ ≤ _
    omega
  refine wpAny_formatField_int hi ⟨toString i, _, rfl, ?z2, ?_⟩
  case z2 => exact ez
  refine ⟨?z3, ?_⟩
  case z3 => exact ez
  refine spliced_nil ⟨Heap.get?_push_at rfl rfl, ?_⟩
  refine call_mw hcs hx3 (Heap.get?_push_at rfl rfl) (one_size _) (fun h4 t1 k4 hx4 => ?_)
  -- self.place = place
  have hns4 := hns0 (h₂ := h4) fun b o hb e => k4 b o hb (k3' b o e)
  have X4 : K.In h4 := fun b o e => k4 b o (fun z => by rw [z, hnx] at e; cases e) (k3' b o (X₁ b o e))
  show wpAt _ _ _ (execs [_] _) _ _ _
  refine ks_wpAt_execs_cons (wpAt_of_wpAny ?_)
  refine plainObj_wpAny_Assign_Attribute ?_
  refine wpAny_Name ?_ (by decide)
  refine wpAny_loadName_local (v := .int i ti) rfl rfl hns4 (by rfl) ?_
  refine wpAny_Name ?_ (by decide)
  refine wpAny_loadName_local (v := .ref x) rfl rfl hns4 (by rfl) ?_
  refine set_plain X4 (ox := excO C t1) (od := none) ⟨hx4, rfl, rfl, trivial⟩ T.sa ?_
  refine exc_osa X4 hx4 hcl (show refsVE (.ref C :: bm) = true from hbm) rfl T.noN (fun h5 tk5 dx k5 dn dne hx5 hn5 => ?_)
  show wpAt _ _ _ (execs [] _) _ _ _
  refine wpAt_of_wpAny (wpAny_execs_nil ?_)
  have kk : ∀ b o, b ≠ x → s.heap.get? b = some o → h5.get? b = some o := fun b o hb e => k5 b o hb (k4 b o hb (k3' b o (k b o e)))
  have szs : s.heap.objs.size ≤ dx := by
    have b1 := Heap.lt_size (k4 _ _ hxL (k3' _ _ (hns.choose_spec.choose_spec.choose_spec.1)))
    exact Nat.le_of_lt (Nat.lt_of_lt_of_le b1 dn)
  exact hq h5 _ dx t1 ⟨kk, hx5, szs, dne, hn5⟩
/-- what a call of the class leaves -/
theorem sup_made (T : SupTxt prog K mg xn m C fI) {i : Int} {ti : Tok} (X : K.In s.heap) (hlim : s.heap.NoLimit) (G : s.heap.Ns mainGlobals mg) (B : s.heap.Ns builtinsNs mb) (hB : ∀ x : Str, x ≠ "__name__" → mb x = bootBuiltins x) (hi : i.natAbs.log2 < 1920) (hroom : A.depth + 1 < recursionLimit)
    (hq : ∀ h' tk e d, OwnMade s.heap h' e C d (.int i ti) → R (.ok (.ret (.ref e))) { s with heap := h', toks := tk }) :
    codeAny (model prog w) A (.call (.ref C) ⟨[.int i ti], []⟩) R s := by
  obtain ⟨nm, q, N, bs, bm, sn, sub, ab, col, dd, k0, k1, k2, k3, k5, hC, hbm⟩ := T.cls
  obtain ⟨hp, g, dr, tk, os⟩ := s
  have k : ∀ b o, hp.get? b = some o → ((hp.push (kdv_tup [.int i ti])).push (excO C hp.objs.size)).get? b = some o := fun b o e => Heap.get?_push_of_some _ (Heap.get?_push_of_some _ e)
  have hget : ((hp.push (kdv_tup [.int i ti])).push (excO C hp.objs.size)).get? (hp.objs.size + 1) = some (excO C hp.objs.size) := by heap_get
  have hnx : K.lookup (hp.objs.size + 1) = none := by
    cases e : K.lookup (hp.objs.size + 1) with
    | none => rfl
    | some o =>
      have z : hp.get? (hp.objs.size + 1) = some o := X _ _ e
      exact absurd (Nat.lt_of_succ_lt (Heap.lt_size z)) (Nat.lt_irrefl _)
  refine call_own F.excBase_ValueError (fun X => refsVE_contains X bm hbm) (X _ _ hC) (looks_findIn X T.iC) (fun self => bind_fn X self T.tC) (one_size (.int i ti)) ?_
  refine sup_init (s := ⟨(hp.push (kdv_tup [.int i ti])).push (excO C hp.objs.size), g, dr, tk, os⟩) T (X.keeps k) (hlim.keeps k) (G.keeps k) (B.keeps k) hB hi hget hnx ?_ fun h' tk' dx t1 ⟨k', hx, dn, dne, hns⟩ => ?_
  · show A.depth + 1 < recursionLimit
    exact hroom
  · have old : ∀ b o, hp.get? b = some o → h'.get? b = some o := fun b o e => k' b o (Nat.ne_of_lt (Nat.lt_succ_of_lt (Heap.lt_size e))) (k b o e)
    have z : hp.objs.size + 1 + 1 ≤ dx := by
      first
        | (simpa only [Heap.size_push] using dn)
        | exact dn
        | (have q := dn; rw [Heap.size_push, Heap.size_push] at q; exact q)
    exact ⟨rfl, hq h' tk' (hp.objs.size + 1) dx ⟨old, Nat.le_succ _, ⟨_, _, hx, rfl, rfl, rfl, rfl⟩, Nat.le_trans (Nat.le_trans (Nat.le_succ _) (Nat.le_succ _)) z, dne, hns⟩⟩
end
end SupX
end PySem

set_option Elab.async false
set_option linter.all false
set_option maxRecDepth 100000
set_option maxHeartbeats 4000000
namespace Cr
open PySem PySem.Spec PyProof.Rows L2

/-! ## defs that may raise -/
structure FnX (P : Program) (w : World) (K : PySem.W.Frag) (mg : Str → Option Value) (base : Heap) (k : Nat) (f : Addr) (fd : FuncData) (ps : List Str) (sp : Sp) : Prop where
  len : ∀ vs H Q E, sp vs H Q E → vs.length = ps.length
  run : ∀ (A : Around) (fr : List Env) (s : Shared) (H : Hp) (args : Args) (us : List Value) (vs : List V) (Q : VK) (E : XK), A.guards = some [] → Room k A → Env0 P w K mg base A fr s H →
    BindsTo s fd args (ps.zip us) → Vals vs us → sp vs H Q E → codeAny (model P w) A (.call (.ref f) args) (CR (L2.CX P w) fr P w H s Q E) s
section
variable {P : Program} {w : World} {K : PySem.W.Frag} {mg : Str → Option Value} {base : Heap} {k : Nat} {f : Addr} {fd : FuncData} {ps : List Str} {sp : Sp}
/-- a def by its body -/
theorem fnX_of {name qual : Str} {params : Arguments} {body : List Stmt} {scope : Scope} {dV kV doc pm cdv ct oc : Value} {an od : Option Addr} {osl : Array (Option Value)} {N : List Str}
    (lk : K.lookup f = some ⟨oc, od, .func (PySem.W.fnOf name qual params body scope dV kV doc pm an cdv ct), osl⟩) (cdIn : PySem.W.codeIn K cdv qual = true) (S : FnScope N ps scope)
    (len : ∀ vs H Q E, sp vs H Q E → vs.length = ps.length)
    (body_ok : ∀ (A : Around) (fr : List Env) (s : Shared) (H : Hp) (vs : List V) (Q : VK) (E : XK), A.guards = some [] → Room k (A.deeper (envOfC qual scope s.heap.objs.size f cdv)) → sp vs H Q E →
      ∃ t, PSs (cxOf (L2.CX P w) P w K mg base N qual scope f cdv A fr s H E) body t ∧ t { nx := fun _ H' => Q .non H', rt := Q } (start N vs) H) :
    FnX P w K mg base (k + 1) f (PySem.W.fnOf name qual params body scope dV kV doc pm an cdv ct) ps sp := by
  constructor
  · exact len
  intro A fr s H args us vs Q E g0 room env0 binds rel hsp
  have len1 := len _ _ _ _ hsp
  have kin : K.In s.heap := env0.mod.kin.keeps fun b o z => (env0.bs b o z).1
  have nolim : s.heap.NoLimit := env0.mod.nolimit.keeps fun b o z => (env0.bs b o z).1
  have kinds : ∀ y ∈ ps.zip us, scope.names.lookup y.1 = some .local ∨ (scope.names.lookup y.1 = some .cell ∧ ((cellsFrom (s.heap.objs.size + 1) scope.names []).lookup y.1).isSome = true) := by
    rintro ⟨n, v⟩ hy
    cases S.par n (List.of_mem_zip hy).1 with
    | inl q => exact Or.inl q
    | inr q => exact Or.inr ⟨q, PySem.W.cellsFrom_some _ _ _ (Or.inl q)⟩
  apply codeAny_call_function room.depth (kin _ _ lk) rfl S.co S.gen rfl (PySem.W.codeRec_of kin cdIn) (binds _ _ _ _ ?_)
  apply wpAny_newFunctionEnv_cells S.kind kinds
  intro env henv s1 x
  cases henv
  refine ⟨nolim.keeps x.toInCall.keep, codeAny_func ?_⟩
  obtain ⟨t, ht, hq⟩ := body_ok A fr s H vs Q E g0 (room.deeper _) hsp
  have I0 : Inv (cxOf (L2.CX P w) P w K mg base N qual scope f cdv A fr s H E) [] (start N vs) H s1 := inv_start S room.hd env0 len1 rel x
  refine wpAny_mono (ht.run [] s1 (start N vs) H _ I0 hq) ?_ (fun e s' hs => hs)
  intro fl s' hs
  match fl, hs with
  | .ret u, ⟨v, _, H', J, rv, q⟩ => exact ⟨v, H', J.os, J.bare, J.base, J.hok, rv, q⟩
  | .next, ⟨_, H', J, q⟩ => exact ⟨V.non, H', J.os, J.bare, J.base, J.hok, rfl, q⟩
  | .brk, ⟨_, _, _, q⟩ => exact q.elim
  | .cont, ⟨_, _, _, q⟩ => exact q.elim
end
/-! ### own errors -/
abbrev XD := List (Str × V)
def IsX (fs : XD) (d : Option Addr) (H : Hp) : Prop := (fs = [] ∧ d = none) ∨ ∃ dd, fs ≠ [] ∧ d = some dd ∧ H dd = some (.xd fs)
/-- an own error without an __init__ of its own -/
structure ExcC (K : PySem.W.Frag) (mg : Str → Option Value) (x : Str) (C : Addr) : Prop where
  g : mg x = some (.ref C)
  k : PySem.W.keepIn K (.ref C) = true
  x : PySem.W.excIn K C [.type "ValueError", .type "Exception", .type "BaseException", .type "object"] "ValueError.__new__" = true
  b : PySem.W.subIn K (.ref C) (.type "BaseException") = some true
  t : PySem.W.typeIn K (.ref C) = some (.type "type")
theorem relO_place {v : V} {v' : Value} (r : RelV v v') (f : Str) : RelO (List.lookup f [(("place" : Str), v)]) (if f = "place" then some v' else none) := by
  by_cases hw : f = "place"
  · subst hw
    rw [if_pos rfl]
    have q : List.lookup ("place" : Str) [(("place" : Str), v)] = some v := by simp [List.lookup]
    rw [q]
    exact r
  · rw [if_neg hw]
    have qw : (f == ("place" : Str)) = false := by simpa using hw
    have q2 : List.lookup f [(("place" : Str), v)] = none := by simp [List.lookup, qw]
    rw [q2]
    trivial
section
variable {X : Cx} {C fI : Addr} {xn m : Str}
def tMkSup (C : Addr) (ta : TA) : L2.St → Hp → XK → Prop := fun σ H Q => ta σ H fun vs H1 => ∃ i : Int, vs = [.int i] ∧ i.natAbs.log2 < 1920 ∧ ∀ d, H1 d = none → Q (.ref C) (some d) (upd H1 d (.xd [(("place" : Str), .int i)]))
theorem pmk_sup {a : Expr} {ta : TA} {p pos : Pos} {k : Nat} (T : PySem.SupX.SupTxt X.prog X.K X.mg xn m C fI) (hr : Room k X.A) (ha : PA X [a] ta) (hg : Gl X xn) (hdb : (xn == ("__debug__" : Str)) = false := by decide)
    (he : starEach (a :: []) X.env = (false, eval a X.env) :: starEach [] X.env := by rfl) (hpl : (backTo pos (starEach [] X.env)).any (·.1) = false := by rfl) :
    PMk X (.Call (.Name xn p) [a] [] pos) (tMkSup C ta) := by
  intro pins s σ H Q I h
  refine wpAny_Call_Name_kw (ld_glob I hg T.gC ?_ hdb)
  refine PySem.W.callWith_K (h₀ := X.base) I.ok.mod.kin T.kC (thn (ha.run pos pins s σ H _ I h) fun us s1 hh => ?_) he hpl
  obtain ⟨vs, H1, I1, r1, i, ev, hi, q1⟩ := hh
  subst ev
  refine ⟨I1.kIn, ?_⟩
  cases r1 with
  | cons rv rn =>
    rename_i v' us'
    cases rn
    obtain ⟨ti, rfl⟩ : ∃ ti, v' = Value.int i ti := rv
    show wpAny _ _ (call (.ref C) [_]) _ _ _
    have hlim := I1.nolimit
    have hG := I1.mod.glob.keeps I1.bk
    obtain ⟨mb, hb1, hb2⟩ := I1.mod.blt
    have hB := hb1.keeps I1.bk
    obtain ⟨hp, g, dr, tk, os⟩ := s1
    refine wpAny_call (PySem.SupX.sup_made T I1.kIn hlim hG hB hb2 hi (by have := hr.dp; omega) fun h' tk' e d M => ?_)
    show MkP X pins σ Q (.ref e) ⟨h', g, dr, tk', os⟩
    obtain ⟨oe, fv, hoe, hc, hd, hdat, h1⟩ := M.obj
    have hns := M.ns
    obtain ⟨G', g1, g2⟩ := restrict h' fun b => decide (b ≠ e)
    have gk : ∀ b, b ≠ e → G'.get? b = h'.get? b := fun b hb => g1 b (decide_eq_true hb)
    have ge : G'.get? e = none := g2 e (by simp)
    have old : ∀ b o, hp.get? b = some o → G'.get? b = some o := fun b o q => (gk b (Nat.ne_of_lt (Nat.lt_of_lt_of_le (Heap.lt_size q) M.new))).trans (M.keep b o q)
    have ob : ObjOk X.prog X.w (upd H1 d (.xd [(("place" : Str), .int i)])) G' d (.xd [(("place" : Str), .int i)]) :=
      ⟨_, hns.at (fun o q => (gk d M.dne).trans q), fun f => relO_place (v := .int i) (v' := .int i ti) ⟨ti, rfl⟩ f⟩
    have J : Inv X pins σ (upd H1 d (.xd [(("place" : Str), .int i)])) ⟨G', g, dr, tk', os⟩ := I1.laid (t' := tk') old M.dbig ob
    refine ⟨e, oe, fv, ⟨G', g, dr, tk', os⟩, _, .ref C, some d, rfl, J, fun b o q => ?_, ge, hoe, ⟨hc, hd⟩, hdat, h1, ?_, rfl, I1.bare, raises_own T.exC T.tyC, q1 d (I1.hok.fresh M.dbig)⟩
    · by_cases hb : b = e
      · have q' : G'.get? b = some o := q
        rw [hb, ge] at q'; cases q'
      · exact (gk b hb).symm.trans q
    · rw [upd_ne (Ne.symm M.dne)]
      exact I1.hok.fresh M.new
end

/-! ### blocks that may raise -/
/-- wi: what is wished of an exception; EX: which may come -/
def BdE {ι : Type} (F : ι → Cx) (W : Wd) (K : PySem.W.Frag) (wi : L2.WX) (EX : Value → XD → Prop) (XE : List Sl → Prop) (ss : List Stmt) (env : List Sl) (P : Post) : Prop :=
  ∀ (σ : L2.St) (H : Hp) (D : Ends), W.I H → Sd W K H σ env → Good W K P D H → (∀ cls fs d σ' H' env', EX cls fs → XE env' → IsX fs d H' → Wx W H H' → W.I H' → Sd W K H' σ' env' → wi cls d σ' H') → WS F ss D σ H
section
variable {ι : Type} {F : ι → Cx} {P : Program} {w : World} {K : PySem.W.Frag} {mg : Str → Option Value} {base : Heap} {N : List Str} {k : Nat} {sc : Scope} {W : Wd} {env : List Sl} {wi : L2.WX} {EX : Value → XD → Prop} {XE : List Sl → Prop}
theorem bde_of {ss : List Stmt} {Po : Post} (h : Bd F W K ss env Po) : BdE F W K wi EX XE ss env Po := fun σ H D i sd g _ => h σ H D i sd g
theorem bde_nil {Po : Post} (h : Po.nx env) : BdE F W K wi EX XE [] env Po := bde_of (bd_nil h)
theorem bde_if {c : Expr} {a b rest : List Stmt} {pos : Pos} {t : Bool} {Po : Post} (hc : T1 F W K c env t) (h1 : t = true → BdE F W K wi EX XE a env { Po with nx := fun e => BdE F W K wi EX XE rest e Po }) (h2 : t = false → BdE F W K wi EX XE b env { Po with nx := fun e => BdE F W K wi EX XE rest e Po }) :
    BdE F W K wi EX XE (.If c a b pos :: rest) env Po := by
  intro σ H D i sd g hx
  refine ⟨tSeq (tIfS (WT F c) (WS F a) (WS F b)) (WS F rest), fun z => pss_cons (ps_if (wt_pt z) (ws_ps z) (ws_ps z)) (ws_ps z), ?_⟩
  refine hc σ H i sd _ fun u H1 x1 i1 ht => ?_
  have hx1 : ∀ cls fs d σ' H' env', EX cls fs → XE env' → IsX fs d H' → Wx W H1 H' → W.I H' → Sd W K H' σ' env' → wi cls d σ' H' := fun cls fs d σ' H' env' e1 e3 e2 y => hx cls fs d σ' H' env' e1 e3 e2 (x1.trans y)
  have gg : Good W K { Po with nx := fun e => BdE F W K wi EX XE rest e Po } { D with nx := WS F rest D } H1 :=
    ⟨fun σ' H' e y i' s' hb => hb σ' H' D i' s' (g.mono (x1.trans y)) (fun cls fs d σ2 H2 env2 e1 e3 e2 y2 => hx cls fs d σ2 H2 env2 e1 e3 e2 ((x1.trans y).trans y2)), (g.mono x1).rt, (g.mono x1).bk, (g.mono x1).ct⟩
  cases u with
  | true => exact h1 ht.symm σ H1 _ i1 (sd.mono x1) gg hx1
  | false => exact h2 ht.symm σ H1 _ i1 (sd.mono x1) gg hx1
/-- raise X('..') -/
theorem bde_raise0 (fm : Fam P w K mg base N k sc F) (tk : ∀ i, Takes (F i) wi) {x m : Str} {j : Nat} {p p2 pos pos2 : Pos} {C : Addr} {rest : List Stmt} {Po : Post} (T : ExcC K mg x C) (hE : EX (.ref C) []) (hXE : XE env) (hg : glB sc x = true := by decide +kernel) (hdb : (x == ("__debug__" : Str)) = false := by decide) :
    BdE F W K wi EX XE (.Raise (some (.Call (.Name x p) [.Constant (.str m) j p2] [] pos)) none pos2 :: rest) env Po := by
  intro σ H D i sd g hx
  refine ⟨tSeq (fun _ σ H => wi (.ref C) none σ H) (WS F rest), fun z => pss_cons (ps_raise (fm.ca z) (tk z) (pmk_own PySem.F.excBase_ValueError (by rw [fm.kk z]; exact T.x) (by rw [fm.mg z]; exact T.g) (by rw [fm.kk z]; exact T.k) (raises_own (by rw [fm.kk z]; exact T.b) (by rw [fm.kk z]; exact T.t)) (gl_of (fm.es z) hg) hdb)) (ws_ps z), ?_⟩
  exact hx _ [] none σ H env hE hXE (Or.inl ⟨rfl, rfl⟩) (Wx.refl W H) i sd
/-- raise X(n), X with super().__init__(f"..{place}") -/
theorem bde_raise1 (fm : Fam P w K mg base N k sc F) (tk : ∀ i, Takes (F i) wi) {x m : Str} {a : Expr} {n : Int} {p pos pos2 : Pos} {C fI : Addr} {rest : List Stmt} {Po : Post} (T : PySem.SupX.SupTxt P K mg x m C fI) (ha : A1 F W K [a] env [.int n]) (hn : n.natAbs.log2 < 1920) (hE : EX (.ref C) [(("place" : Str), .int n)]) (hXE : XE env) (hg : glB sc x = true := by decide +kernel)
    (hdb : (x == ("__debug__" : Str)) = false := by decide) (st : ∀ i, starEach (a :: []) (F i).env = (false, eval a (F i).env) :: starEach [] (F i).env := by intro _; rfl) (pl : ∀ i, (backTo pos (starEach [] (F i).env)).any (·.1) = false := by intro _; rfl) :
    BdE F W K wi EX XE (.Raise (some (.Call (.Name x p) [a] [] pos)) none pos2 :: rest) env Po := by
  intro σ H D i sd g hx
  refine ⟨tSeq (fun _ σ H => tMkSup C (WA F [a]) σ H fun cls d H' => wi cls d σ H') (WS F rest), fun z => pss_cons (ps_raise (fm.ca z) (tk z) (pmk_sup (xn := x) (m := m) (fI := fI) (k := k) (by rw [fm.pr z, fm.kk z, fm.mg z]; exact T) (fm.ro z) (wa_pa z) (gl_of (fm.es z) hg) hdb (st z) (pl z))) (ws_ps z), ?_⟩
  refine ha σ H i sd _ fun vs H1 rs x1 i1 d1 h1 => ?_
  subst h1
  match vs, d1 with
  | [v], ⟨⟨u, e, dn⟩, _⟩ =>
    cases e
    cases dn
    refine ⟨n, rfl, hn, fun d hd => ?_⟩
    obtain ⟨np, xp, ip⟩ := W.new (o := .xd [(("place" : Str), .int n)]) i1 hd
    exact hx _ _ (some d) σ _ env hE hXE (Or.inr ⟨d, (fun z => nomatch z), rfl, upd_same⟩) (x1.trans (fun b o nb h => Xt.new hd b o h)) ip (sd.mono (x1.trans (fun b o nb h => Xt.new hd b o h)))
end

/-! ### the promise of such a def, and its body -/
structure OwnX (P : Program) (w : World) (K : PySem.W.Frag) (mg : Str → Option Value) (base : Heap) (x : Str) (j : Nat) (ps : List Str) (sp : Sp) : Prop where
  ex : ∃ (f : Addr) (fd : FuncData), mg x = some (.ref f) ∧ PySem.W.keepIn K (.ref f) = true ∧ Binds K fd ps [] ∧ FnX P w K mg base j f fd ps sp
def spX (K : PySem.W.Frag) (Pre : List PyData → Prop) (Fn : List PyData → PyData → Prop) (Ex : List PyData → Value → XD → Prop) : Sp := fun vs H Q E => ∃ (W : Wd) (ds : List PyData), W.I H ∧ DnAll W K H vs ds ∧ Pre ds ∧
  (∀ r v H', Fn ds r → Xt H H' → Dn W K H' v r → Q v H') ∧ ∀ cls fs d H', Ex ds cls fs → IsX fs d H' → Xt H H' → E cls d H'
abbrev DFX (P : Program) (w : World) (K : PySem.W.Frag) (mg : Str → Option Value) (base : Heap) (N : List Str) (qual : Str) (sc : Scope) (f : Addr) (cdv : Value) (A : Around) (fr : List Env) (s : Shared) (H : Hp) (E : XK) : Unit → Cx :=
  fun _ => cxOf (L2.CX P w) P w K mg base N qual sc f cdv A fr s H E
section
variable {P : Program} {w : World} {K : PySem.W.Frag} {mg : Str → Option Value} {base : Heap} {k : Nat} {x qual : Str} {st : Stmt} {f : Addr} {fd : FuncData} {N ps : List Str}
theorem fn_raises {Pre : List PyData → Prop} {Fn : List PyData → PyData → Prop} {Ex : List PyData → Value → XD → Prop} (Fu : Fun K x qual st f fd) (S : FnScope N ps (defScope st)) (len : ∀ ds, Pre ds → ds.length = ps.length)
    (body : ∀ (cdv : Value) (A : Around) (fr : List Env) (s : Shared) (H : Hp) (E : XK) (W : Wd) (ds : List PyData), Fam P w K mg base N k (defScope st) (DFX P w K mg base N qual (defScope st) f cdv A fr s H E) → (∀ i, Takes (DFX P w K mg base N qual (defScope st) f cdv A fr s H E i) (fun cls d _ H => E cls d H)) → Pre ds →
      BdE (DFX P w K mg base N qual (defScope st) f cdv A fr s H E) W K (fun cls d _ H => E cls d H) (Ex ds) (fun _ => True) (defBody st) (startE N (ds.map .dat)) { nx := fun _ => Fn ds .none, rt := fun z => ∃ r, z = .dat r ∧ Fn ds r }) : FnX P w K mg base (k + 1) f fd ps (spX K Pre Fn Ex) := by
  obtain ⟨oc, od, kV, doc, pm, an, cdv, ct, osl, rfl, lk, hcd⟩ := Fu.ex
  refine fnX_of lk hcd S (fun vs H Q E ⟨W, ds, _, dn, hr, _⟩ => by rw [dn.length]; exact len ds hr) fun A fr s H vs Q E g hr ⟨W, ds, i, dn, hp, q, qx⟩ => ?_
  have fm : Fam P w K mg base N k (defScope st) (DFX P w K mg base N qual (defScope st) f cdv A fr s H E) := ⟨fun _ => rfl, S.kind, fun _ => rfl, fun _ => rfl, fun _ => rfl, fun _ => rfl, fun _ => rfl, fun _ => rfl, S.nd, fun _ => rfl, fun _ => g, fun _ => hr⟩
  refine ⟨WS (DFX P w K mg base N qual (defScope st) f cdv A fr s H E) (defBody st), ws_ps (F := DFX P w K mg base N qual (defScope st) f cdv A fr s H E) (), ?_⟩
  refine body cdv A fr s H E (W.lock H) ds fm (fun _ => takes_of rfl rfl rfl rfl) hp _ H _ ⟨i, fun _ _ => rfl⟩ (start_sd (sd_of_dn (DnAll.to (W := W) (W' := W.lock H) (fun _ _ m => m) dn))) ⟨fun σ' H' e xx ii s' h => ?_, fun v H' r' xx ii dv e => ?_, fun σ' H' e x i' s' h => h.elim, fun σ' H' e x i' s' h => h.elim⟩ fun cls fs d σ' H' env' he _ hi xx ii _ => ?_
  · exact q .none .non H' h (lock_xt xx ii) .non
  · obtain ⟨r, rfl, h⟩ := e
    obtain ⟨u, z, d⟩ := dv
    cases z
    exact q r v H' h (lock_xt xx ii) (Dn.to (W := W.lock H) (W' := W) (fun _ _ m => m) d)
  · exact qx cls fs d H' he hi (lock_xt xx ii)
end
end Cr

set_option Elab.async false
set_option linter.all false
set_option maxRecDepth 100000
set_option maxHeartbeats 4000000
namespace Cr
open PySem PySem.Spec PyProof.Rows L2

/-! ## try with several clauses, each with a name -/
abbrev Cls : Type := Value × Nat × (Addr → Value → Option Addr → TS)
def slotGone (D : Ends) (i : Nat) : Ends := { nx := fun σ' H' => D.nx (σ'.set i none) H', rt := D.rt, bk := fun σ' H' => D.bk (σ'.set i none) H', ct := fun σ' H' => D.ct (σ'.set i none) H' }
def wManyA (K : PySem.W.Frag) (Wout : L2.WX) (D : Ends) : List Cls → L2.WX
  | [] => Wout
  | (c, i, ts) :: r => fun cls d σ H => ∃ b, PySem.W.exmOne K cls c = some b ∧ (b = true → ∀ a, H a = none → ts a cls d (slotGone D i) (σ.set i (some (.ref a))) H) ∧ (b = false → wManyA K Wout D r cls d σ H)
inductive HdsA (X : Cx) : List ExceptHandler → List Cls → Prop
  | nil : HdsA X [] []
  | cons {x n : Str} {i : Nat} {c : Value} {ts : Addr → Value → Option Addr → TS} {b₀ : Stmt} {suite : List Stmt} {np pos' : Pos} {hds : List ExceptHandler} {l : List Cls} (hi : X.N[i]? = some n) (hln : X.env.kindOf n = some .local) (hc : Names X x c)
      (hsu : ∀ (a : Addr) (oe : Obj) (cls : Value) (d : Option Addr) (pn : List (Addr × Obj)), Zc cls d oe → (∃ vs, oe.data = .fields vs) → PSs (X.suite a ((a, oe) :: pn)) (b₀ :: suite) (ts a cls d)) (r : HdsA X hds l) :
      HdsA X (.ExceptHandler (some (.Name x np)) (some n) (b₀ :: suite) pos' :: hds) ((c, i, ts) :: l)
section
variable {X : Cx} {body : List Stmt} {h₀ : ExceptHandler} {hds : List ExceptHandler} {l : List Cls} {pos : Pos} {tb : L2.WX → TS} {Wout : L2.WX}
theorem ps_try_named (hs : X.stack = X.env :: X.outer) (hf : X.env.frame = some X.env.locals) (hN : X.N.Nodup) (tk : Takes X Wout)
    (hb : ∀ (W : L2.WX) (pn : List (Addr × Obj)) (xe : Value → Shared → Prop), Takes (X.tr pn xe) W → PassesOwn (model X.prog X.w) X.A X.env xe → PSs (X.tr pn xe) body (tb W))
    (hh : HdsA X (h₀ :: hds) l) : PS X (.Try body (h₀ :: hds) [] [] pos) (fun D σ H => tb (wManyA X.K Wout D l) D σ H) := by
  refine ⟨fun pins s σ H D I h => ?_⟩
  have ok := I.ok
  have frs_ : X.A.frames = some (X.env :: X.outer) := by rw [ok.frames, hs]
  refine wpAny_Try_except ?_
  refine wpAny_mono ((hb (wManyA X.K Wout D l) (X.pn ++ pins) (fun e s₁ => wpAny (model X.prog X.w) X.A (noteFrame e X.env) (fun _ s₂ => wpAny (model X.prog X.w) X.A (setFlight e none) (fun _ s₃ =>
    wpAny (model X.prog X.w) X.A (handleBy e X.env (h₀ :: hds)) (SP X pins D) X.xe s₃) X.xe s₂) X.xe s₁) (fun u s' xx => ?_) PassesOwn.looking).run [] s σ H D (I.toTry _) h) (fun f s1 hsp => ?_) (fun e s1 he => he)
  · -- caught
    obtain ⟨a, B, sI, pins', σ', H', cls, d, rfl, J', nb, up, sky, na, os, ag, w⟩ := xx
    have J : Inv X pins σ' H' sI := J'.ofTry ok
    show wpAny (model X.prog X.w) X.A (noteFrame (.ref a) X.env) _ _ _
    refine Sky.land (B := B) (outer := X.outer) Zc.steady frs_ hf (by rw [← hs]; exact sky) fun h3 fl3 up3 => ?_
    have J3 : Inv X pins σ' H' { s' with heap := h3 } := J.landed nb fl3.1 (up.trans up3) os ag
    obtain ⟨oe3, vs3, he3, hz3, hd3⟩ := fl3.there
    have nfr : a ∉ frs (X.env :: X.outer) := fun hm => by
      obtain ⟨_, o', e', hnf⟩ := fl3.2.2.1.mem hm
      rw [he3] at e'
      cases e'
      exact hnf _ hd3
    have nL : a ≠ X.env.locals := fun z => nfr (List.mem_filterMap.mpr ⟨X.env, List.mem_cons_self, by rw [hf, z]⟩)
    have nF : a ∉ X.fs := fun hm => by
      obtain ⟨e, he, q⟩ := List.mem_filterMap.mp hm
      exact nfr (List.mem_filterMap.mpr ⟨e, List.mem_cons_of_mem _ he, q⟩)
    have S3 := J3.suite he3 hd3 na nL nF
    have walk : ∀ {hs' : List ExceptHandler} {l' : List Cls}, HdsA X hs' l' → wManyA X.K Wout D l' cls d σ' H' →
        wpAny (model X.prog X.w) X.A (handleBy (.ref a) X.env hs') (SP X pins D) X.xe { s' with heap := h3 } := by
      intro hs' l' hk
      induction hk with
      | nil =>
        intro w
        refine wpAny_handleBy_nil ?_
        obtain ⟨_, _, _, oe, vs, T, _, _, he, _, hd, h1, _⟩ := id fl3
        unfold PySem.passOn
        refine wpAny_bind (wpAny_field he hd h1 ?_)
        rw [if_neg (show ¬ ((Value.ref T == Value.none) = true) from by simp)]
        have fin : wpAny (model X.prog X.w) X.A (setFlight (.ref a) X.env.frame) (fun _ s4 => wpAny (model X.prog X.w) X.A (throw (.ref a) : Sem Flow) (SP X pins D) X.xe s4) X.xe { s' with heap := h3 } := by
          rw [hf]
          refine HandSPX.setFlight_upZ fl3 fun h4 hh4 up4 => wpAny_throw (tk _ _ ?_)
          exact ⟨a, B, sI, pins, σ', H', cls, d, rfl, J, nb, (up.trans up3).trans up4, .inr (.inr (by rw [hs]; exact hh4)), na, os, ag, w⟩
        first
          | exact wpAny_bind (wpAny_pure (wpAny_bind fin))
          | exact wpAny_bind fin
      | @cons x n i c ts b₀ suite np pos' hds2 l2 hi hln hc hsu r ih =>
        intro w
        obtain ⟨b, hb1, hyes, hno⟩ := w
        refine wpAny_handleBy_cons (codeAny_handlers_test ?_) (by intro q; cases q)
        have LT : PySem.W.Looks (model X.prog X.w) h3 (typeOf (.ref a)) cls := fun A Q E s k q => wpAny_typeOf_ref (k _ _ he3) (by rw [hz3.1]; exact q)
        have LM := PySem.W.exm_one (M := model X.prog X.w) (J3.kIn) LT hb1
        have test : ∀ {Q : Value → Shared → Prop} {E : Value → Shared → Prop}, Q c { s' with heap := h3 } → wpAny (model X.prog X.w) (X.A.mark (some (.ref a))) (eval (.Name x np) X.env) Q E { s' with heap := h3 } := fun {Q E} q => by
          obtain ⟨hg, hdbg, hm | ⟨hm, hv, hnn⟩⟩ := hc
          · exact ld_glob (X := X.suite a ((a, oe3) :: (X.pn ++ pins))) S3 hg hm q hdbg
          · exact ld_blt (X := X.suite a ((a, oe3) :: (X.pn ++ pins))) S3 hg hm hv q hnn hdbg
        refine test (LM.here ?_)
        cases b with
        | true =>
          refine codeAny_handlers_suite_as ?_
          refine HandSPX.lands_againZ fl3 fun h4 fl4 up4 => ?_
          have J4 : Inv X pins σ' H' { s' with heap := h4 } := J.landed nb fl4.1 ((up.trans up3).trans up4) os ag
          obtain ⟨oe4, vs4, he4, hz4, hd4⟩ := fl4.there
          refine store_ok (X := X.suite a ((a, oe4) :: (X.pn ++ pins))) (v := .ref a) (J4.suite he4 hd4 na nL nF) hN hi (.inl hln) rfl (fun s5 S5 => ?_) (.inr hln)
          refine wpAny_mono ((hsu a oe4 cls d (X.pn ++ pins) hz4 ⟨_, hd4⟩).run [] s5 _ H' _ S5 (hyes rfl a na)) (fun f s6 hsp => ?_) (fun _ _ z => False.elim z)
          have out : ∀ {σ6 : L2.St} {H6 : Hp} {Q : Shared → Prop}, Inv (X.suite a ((a, oe4) :: (X.pn ++ pins))) [] σ6 H6 s6 → (∀ s7, Inv X pins (σ6.set i none) H6 s7 → Q s7) →
              wpAny (model X.prog X.w) X.A (do bindName X.env n .none; unbindBehindTheSuite X.env n pos') (fun _ s7 => Q s7) X.xe s6 := fun {σ6 H6 Q} S6 hq => gone_ok (S6.unsuite ok) hN hi hln hq
          cases f with
          | next =>
            obtain ⟨σ6, H6, S6, q6⟩ := hsp
            exact out S6 fun s7 J7 => ⟨_, _, J7, q6⟩
          | brk =>
            obtain ⟨σ6, H6, S6, q6⟩ := hsp
            exact out S6 fun s7 J7 => ⟨_, _, J7, q6⟩
          | cont =>
            obtain ⟨σ6, H6, S6, q6⟩ := hsp
            exact out S6 fun s7 J7 => ⟨_, _, J7, q6⟩
          | ret u =>
            obtain ⟨v6, σ6, H6, S6, r6, q6⟩ := hsp
            exact out S6 fun s7 J7 => ⟨_, _, _, J7, r6, q6⟩
        | false =>
          show wpAny _ X.A (handleBy (.ref a) X.env hds2) _ _ _
          exact ih (hno rfl)
    exact walk hh w
  · cases f with
    | next =>
      obtain ⟨σ', H', J', q⟩ := hsp
      exact wpAny_execs_nil ⟨σ', H', J'.ofTry ok, q⟩
    | brk =>
      obtain ⟨σ', H', J', q⟩ := hsp
      exact ⟨σ', H', J'.ofTry ok, q⟩
    | cont =>
      obtain ⟨σ', H', J', q⟩ := hsp
      exact ⟨σ', H', J'.ofTry ok, q⟩
    | ret u =>
      obtain ⟨v, σ', H', J', r, q⟩ := hsp
      exact ⟨v, σ', H', J'.ofTry ok, r, q⟩
end

/-! ### calls of defs that may raise -/
section
variable {X : Cx} {k : Nat} {f : Addr} {fd : FuncData} {ps : List Str} {sp : Sp} {x : Str} {p pos : Pos} {e : Expr} {es : List Expr} {t : TA} {wi : L2.WX}
theorem pe_callX (F : FnX X.prog X.w X.K X.mg X.base k f fd ps sp) (tk : Takes X wi) (hg : X.A.guards = some []) (hr : Room k X.A) (gl : Gl X x) (hm : X.mg x = some (.ref f)) (hk : PySem.W.keepIn X.K (.ref f) = true) (hb : Binds X.K fd ps [])
    (ha : PA X (e :: es) t) (hdb : (x == ("__debug__" : Str)) = false := by decide) (st : starEach (e :: es) X.env = (false, eval e X.env) :: starEach es X.env := by rfl) (pl : (backTo pos (starEach es X.env)).any (·.1) = false := by rfl) :
    PE X (.Call (.Name x p) (e :: es) [] pos) (fun σ H Q => t σ H fun vs H1 => sp vs H1 Q (fun cls d H2 => wi cls d σ H2)) := by
  constructor
  intro pins s σ H Q I h
  apply wpAny_Call_Name_kw (ld_glob I gl hm ?_ hdb)
  refine PySem.W.callWith_K (h₀ := X.base) I.ok.mod.kin hk (thn (ha.run pos pins s σ H _ I h) ?_) st pl
  rintro us s1 ⟨vs, H1, I1, r, q⟩
  refine ⟨I1.kIn, ?_⟩
  have ll : us.length = ps.length := r.length.symm.trans (F.len _ _ _ _ q)
  have hbb := hb s1 us I1.kIn (by rw [List.append_nil]; exact ll)
  rw [List.append_nil] at hbb
  apply wpAny_call
  refine codeAny_mono (F.run X.A X.stack s1 H1 ⟨us, []⟩ us vs Q _ hg hr I1.env0 hbb r q) ?_
  intro res s' hq
  match res, hq with
  | .ok (.ret u), hq => exact I1.after hq
  | .error u, hq => exact passAt tk σ pins H1 s1 u s' I1 hq
end
section
variable {ι : Type} {F : ι → Cx} {P : Program} {w : World} {K : PySem.W.Frag} {mg : Str → Option Value} {base : Heap} {N : List Str} {k : Nat} {sc : Scope} {W : Wd} {env : List Sl} {wi : L2.WX} {EX : Value → XD → Prop} {XE : List Sl → Prop}
/-- f(a, ..) as a statement -/
theorem bde_call (fm : Fam P w K mg base N k sc F) (tk : ∀ i, Takes (F i) wi) {x : Str} {j : Nat} {ps : List Str} {Pre : List PyData → Prop} {Fn : List PyData → PyData → Prop} {Ex : List PyData → Value → XD → Prop} {p pos pos2 : Pos} {e : Expr} {es : List Expr} {ds : List PyData} {rest : List Stmt} {Po : Post} (o : OwnX P w K mg base x j ps (spX K Pre Fn Ex)) (hj : j ≤ k) (ha : A1 F W K (e :: es) env ds) (hp : Pre ds)
    (hn : ∀ r, Fn ds r → BdE F W K wi EX XE rest env Po) (hx : ∀ cls fs, Ex ds cls fs → EX cls fs ∧ XE env)
    (hg : glB sc x = true := by decide +kernel) (hdb : (x == ("__debug__" : Str)) = false := by decide) (st : ∀ i, starEach (e :: es) (F i).env = (false, eval e (F i).env) :: starEach es (F i).env := by intro _; rfl) (pl : ∀ i, (backTo pos (starEach es (F i).env)).any (·.1) = false := by intro _; rfl)
    (hs : ∀ i, swapsWith (.Call (.Name x p) (e :: es) [] pos) none pos2.line (F i).env = pure false := by intro _; rfl) : BdE F W K wi EX XE (.Expr (.Call (.Name x p) (e :: es) [] pos) pos2 :: rest) env Po := by
  obtain ⟨f, fd, hm, hk, hb, G⟩ := o.ex
  intro σ H D i sd g hw
  refine ⟨tSeq (tDrop (fun σ H Q => WA F (e :: es) σ H fun vs H1 => spX K Pre Fn Ex vs H1 Q (fun cls d H2 => wi cls d σ H2))) (WS F rest), fun z => pss_cons (ps_expr ?_ (hs z)) (ws_ps z), ?_⟩
  · have GG : FnX (F z).prog (F z).w (F z).K (F z).mg (F z).base j f fd ps (spX K Pre Fn Ex) := by rw [fm.pr z, fm.wo z, fm.kk z, fm.mg z, fm.ba z]; exact G
    exact pe_callX GG (tk z) (fm.gu z) ((fm.ro z).mono hj) (gl_of (fm.es z) hg) (by rw [fm.mg z]; exact hm) (by rw [fm.kk z]; exact hk) (by rw [fm.kk z]; exact hb) (wa_pa z) hdb (st z) (pl z)
  · refine ha σ H i sd _ fun vs H1 rs x1 i1 d1 h1 => ?_
    subst h1
    refine ⟨W, ds, i1, dn_of_sd d1, hp, fun r v H' hr x2 _ => ?_, fun cls fs d H' he hi x2 => ?_⟩
    · have y : Wx W H H' := x1.trans (x2.wx W)
      exact hn r hr σ H' D (W.mono _ _ i1 x2) (sd.mono y) (g.mono y) fun cls fs d σ' H2 env' a b c y2 => hw cls fs d σ' H2 env' a b c (y.trans y2)
    · have y : Wx W H H' := x1.trans (x2.wx W)
      exact hw cls fs d σ H' env (hx cls fs he).1 (hx cls fs he).2 hi y (W.mono _ _ i1 x2) (sd.mono y)
/-- a try whose body may raise -/
theorem bd_try (fm : Fam P w K mg base N k sc F) {body rest : List Stmt} {h₀ : ExceptHandler} {hds : List ExceptHandler} {pos : Pos} {Po : Post} (l : List Cls) (EX : Value → XD → Prop) (XE : List Sl → Prop) (hh : ∀ z, HdsA (F z) (h₀ :: hds) l)
    (hb : ∀ (wi : L2.WX) {ι' : Type} (F' : ι' → Cx), Fam P w K mg base N k sc F' → (∀ i, Takes (F' i) wi) → BdE F' W K wi EX XE body env { Po with nx := fun e => Bd F W K rest e Po })
    (hc : ∀ cls fs d σ' H' env' D', EX cls fs → XE env' → IsX fs d H' → W.I H' → Sd W K H' σ' env' → Good W K { Po with nx := fun e => Bd F W K rest e Po } D' H' → wManyA K (fun _ _ _ _ => False) D' l cls d σ' H')
    (stk : ∀ z, (F z).stack = (F z).env :: (F z).outer := by intro _; rfl) (fr : ∀ z, (F z).env.frame = some (F z).env.locals := by intro _; rfl) : Bd F W K (.Try body (h₀ :: hds) [] [] pos :: rest) env Po := by
  intro σ H D i sd g
  refine ⟨tSeq (fun D σ H => WS (fun z : { z : ι × List (Addr × Obj) × (Value → Shared → Prop) // Takes ((F z.1).tr z.2.1 z.2.2) (wManyA K (fun _ _ _ _ => False) D l) } => (F z.1.1).tr z.1.2.1 z.1.2.2) body D σ H) (WS F rest), fun z => pss_cons ?_ (ws_ps z), ?_⟩
  · have := ps_try_named (X := F z) (body := body) (pos := pos) (tb := fun W' => WS (fun z : { z : ι × List (Addr × Obj) × (Value → Shared → Prop) // Takes ((F z.1).tr z.2.1 z.2.2) W' } => (F z.1.1).tr z.1.2.1 z.1.2.2) body) (Wout := fun _ _ _ _ => False) (stk z) (fr z) (by rw [fm.nn z]; exact fm.nd) takes_none5 (fun W' pn xe tk _ => ws_ps (F := fun z : { z : ι × List (Addr × Obj) × (Value → Shared → Prop) // Takes ((F z.1).tr z.2.1 z.2.2) W' } => (F z.1.1).tr z.1.2.1 z.1.2.2) ⟨(z, pn, xe), tk⟩) (hh z)
    rwa [fm.kk z] at this
  · have gg : Good W K { Po with nx := fun e => Bd F W K rest e Po } { D with nx := WS F rest D } H := ⟨fun σ' H' e y i' s' hb => hb σ' H' D i' s' (g.mono y), g.rt, g.bk, g.ct⟩
    refine hb (wManyA K (fun _ _ _ _ => False) { D with nx := WS F rest D } l) (fun z : { z : ι × List (Addr × Obj) × (Value → Shared → Prop) // Takes ((F z.1).tr z.2.1 z.2.2) (wManyA K (fun _ _ _ _ => False) { D with nx := WS F rest D } l) } => (F z.1.1).tr z.1.2.1 z.1.2.2)
      ⟨fun z => fm.es z.1.1, fm.kd, fun z => fm.pr z.1.1, fun z => fm.wo z.1.1, fun z => fm.kk z.1.1, fun z => fm.mg z.1.1, fun z => fm.ba z.1.1, fun z => fm.nn z.1.1, fm.nd, fun z => fm.ca z.1.1, fun z => fm.gu z.1.1, fun z => fm.ro z.1.1⟩ (fun z => z.2) σ H _ i sd gg fun cls fs d σ' H' env' e1 e2 e3 y i' s' => ?_
    exact hc cls fs d σ' H' env' _ e1 e2 e3 i' s' (gg.mono y)
end
end Cr

set_option Elab.async false
set_option linter.all false
set_option maxRecDepth 100000
set_option maxHeartbeats 4000000
namespace Cr
open PySem PySem.Spec PyProof.Rows L2 PySem.W PySem.SupX
/-! ## what a module's top has left of own errors -/
structure SupIn (P : Program) (K : Frag) (x m : Str) (C fI : Addr) : Prop where
  g : nsIn K mainGlobals x = some (some (.ref C))
  s : nsIn K mainGlobals "super" = some none
  t : ∀ mg, mg x = some (.ref C) → mg "super" = none → SupTxt P K mg x m C fI
theorem supIn_mk {P : Program} {K : Frag} {x m : Str} {C fI N : Addr} {nm q : Str} {bs bm : List Value} {sn : List Str} {sub : List Value} {ab : Bool} {col : Option Bool} {dd od an cdd cld : Option Addr} {k0 k1 k2 k3 k5 : Option Value} {oc doc pm ct ccl cl : Value} {cda cc : Addr} {qn file : Str} {osl ccs csl : Array (Option Value)} {vs : Array Value} {tf : Tok}
    {p1 p2 q1 q2 q3 q4 q5 q6 q7 q8 q9 q10 q11 q12 q13 : Pos} {j : Nat}
    (g : nsIn K mainGlobals x = some (some (.ref C))) (s : nsIn K mainGlobals "super" = some none)
    (lC : K.lookup C = some (excClassObj nm q C N bs bm true sn sub ab col dd k0 k1 k2 k3 k5 "ValueError.__new__")) (hbm : HandSPX.refsVE bm = true)
    (sa : findIn K (.ref C) "__setattr__" = some (some (.builtin "object.__setattr__"))) (ga : findIn K (.ref C) "__getattribute__" = some (some (.builtin "BaseException.__getattribute__"))) (gg : findIn K (.ref C) "__getattr__" = some none) (noN : findIn K (.ref C) "place" = some none)
    (iC : findIn K (.ref C) "__init__" = some (some (.ref fI))) (tC : typeIn K (.ref fI) = some (.type "function")) (kC : keepIn K (.ref C) = true) (exC : subIn K (.ref C) (.type "BaseException") = some true) (vEC : subIn K (.ref C) (.type "ValueError") = some true) (selfC : mroIn K C (.ref C) = some true)
    (tyC : typeIn K (.ref C) = some (.type "type")) (hdC : hasDictIn K C = true) (te : exmOne K (.ref C) (.ref C) = some true) (sin : ks_superIn K C C "__init__" = some (some (.builtin "ValueError.__init__"))) (opq : nsIn K cStatics "thirdparty.any" = some none)
    (top : (P.main.scope.names.lookup ("super" : Str)).isSome = false) (mz : m.length ≤ 1000)
    (lf : K.lookup fI = some ⟨oc, od, .func (ksFn "__init__" qn (iA p1 p2) (iB q1 q2 q3 q4 q5 q6 q7 q8 q9 q10 q11 q12 q13 m j) iS .none .none doc pm an (.ref cda) ct cc), osl⟩) (hcd : codeIn K (.ref cda) qn = true)
    (lcd : K.lookup cda = some ⟨ccl, cdd, .fields vs, ccs⟩) (hvs : vs[2]? = some (.str file tf)) (hfile : ((P.main.file : Str) == file) = true) (lcc : K.lookup cc = some ⟨cl, cld, .cell (some (.ref C)), csl⟩) (l1 : (q9.line == q8.line) = true) (l2 : (q3.endLine == q8.line) = true) : SupIn P K x m C fI :=
  ⟨g, s, fun mg h1 h2 => ⟨h1, ⟨nm, q, N, bs, bm, sn, sub, ab, col, dd, k0, k1, k2, k3, k5, lC, hbm⟩, sa, ga, gg, noN, iC, tC, kC, exC, vEC, selfC, tyC, hdC, te, sin, opq, h2, top, mz,
    ⟨oc, od, qn, doc, pm, an, cda, ct, cc, osl, p1, p2, q1, q2, q3, q4, q5, q6, q7, q8, q9, q10, q11, q12, q13, j, lf, hcd, ⟨ccl, cdd, vs, ccs, file, tf, lcd, hvs, hfile⟩, ⟨cl, cld, csl, lcc⟩, l1, l2⟩⟩⟩
theorem SupIn.txt {P : Program} {K : Frag} {x m : Str} {C fI : Addr} {mg : Str → Option Value} {h : Heap} (S : SupIn P K x m C fI) (X : K.In h) (G : h.Ns mainGlobals mg) : SupTxt P K mg x m C fI := S.t mg (mg_of X G S.g) (mg_none_of X G S.s)
structure ExcIn (K : Frag) (x : Str) (C : Addr) : Prop where
  g : nsIn K mainGlobals x = some (some (.ref C))
  k : keepIn K (.ref C) = true
  x : excIn K C [.type "ValueError", .type "Exception", .type "BaseException", .type "object"] "ValueError.__new__" = true
  b : subIn K (.ref C) (.type "BaseException") = some true
  t : typeIn K (.ref C) = some (.type "type")
theorem ExcIn.txt {K : Frag} {x : Str} {C : Addr} {mg : Str → Option Value} {h : Heap} (S : ExcIn K x C) (X : K.In h) (G : h.Ns mainGlobals mg) : ExcC K mg x C := ⟨mg_of X G S.g, S.k, S.x, S.b, S.t⟩
/-- a def that may raise, from what the top has left -/
theorem ownX_mk {P : Program} {w : World} {K : Frag} {mg : Str → Option Value} {base h : Heap} {x : Str} {st : Stmt} {j : Nat} {ps : List Str} {sp : Sp} (X : K.In h) (G : h.Ns mainGlobals mg) (d : DefF K x st) (hb : BindsB x st ps)
    (ok : ∀ f fd, Fun K x x st f fd → FnX P w K mg base j f fd ps sp) : OwnX P w K mg base x j ps sp := by
  obtain ⟨f, oc, od, an, sl, kV, dc, pm, cd, ct, a, l, c, k⟩ := d
  have Fu := fun_mk (st := st) l c k
  exact ⟨f, _, mg_of X G a, k, Fu.binds hb, ok f _ Fu⟩
end Cr

set_option Elab.async false
set_option linter.all false
set_option maxRecDepth 100000
set_option maxHeartbeats 4000000
namespace Cr
open PySem PySem.Spec PyProof.Rows L2

/-! ## list(zip(t, l)), t a tuple, l a list -/
theorem zip_nolen : typeLookup (.type "zip") "__len__" = pure none := am_miss_of_fast (by decide +kernel)
theorem zip_nohint : typeLookup (.type "zip") "__length_hint__" = pure none := am_miss_of_fast (by decide +kernel)
section
variable {prog : Program} {w : World} {A : Around} {E : Value → Shared → Prop} {s : Shared}
theorem zipTL_item {z TI TO T i1 i2 l1 l2 : Addr} {f : Bool} {oT : Obj} {k1 k2 : Nat} {xs ys : Array Value} {x y : Value} {Q : Option Value → Shared → Prop} (D : ZipApart z TI TO i1 i2 l1 l2)
    (hz : IsZipHeld s.heap z TI TO T f) (hT : s.heap.get? T = some oT) (hTI : IsTupOf2 s.heap TI (.ref i1) (.ref i2))
    (h1 : s.heap.IsTupleIter i1 l1 k1) (h2 : s.heap.IsListIter i2 l2 k2) (hl1 : s.heap.IsTuple l1 xs) (hl2 : s.heap.IsList l2 ys) (hx : xs[k1]? = some x) (hy : ys[k2]? = some y)
    (hQ : ∀ h', IsZipHeld h' z TI TO T true → h'.IsTupleIter i1 l1 (k1 + 1) → h'.IsListIter i2 l2 (k2 + 1) → IsTupOf2 h' s.heap.objs.size x y →
      (∀ c o, c ≠ z → c ≠ i1 → c ≠ i2 → s.heap.get? c = some o → h'.get? c = some o) → Q (some (.ref s.heap.objs.size)) { s with heap := h' }) :
    wpAny (model prog w) A (pyNext (.ref z)) Q E s := by
  have hTy : s.TypeIs (.ref z) "zip" := ⟨_, hz, rfl⟩
  unfold pyNext
  refine wpAny_bind (wpAny_attempt (wpAny_callSpecial?_slot (name := Str.ofString "__next__") hTy PySem.F.slot_zip_next
    (wpAny_call_entry PySem.F.slot_zip_next hTy PySem.F.entry_zip_next ?_ (PySem.F.args_zip_next_1 _))))
  show wpAny _ _ (field (.ref z) 2 >>= _) _ _ _
  refine wpAny_bind (wpAny_field hz rfl (x := .bool false) rfl ?_)
  show wpAny _ _ (field (.ref z) 3 >>= _) _ _ _
  refine wpAny_bind (wpAny_field hz rfl (x := .ref TI) rfl ?_)
  refine wpAny_bind (wpAny_seqItems hTI rfl ?_)
  show wpAny _ _ (Builtin.SmallTypes.ownedTupleIsFree (.ref z) >>= _) _ _ _
  refine wpAny_bind (wpAny_tupleHeld_zip hz hT fun h₁ hz₁ hs₁ => ?_)
  simp only [Bool.false_eq_true, if_false]
  refine wpAny_bind ?_
  rw [← Array.forIn_toList]
  simp only [List.forIn_cons, List.forIn_nil]
  refine wpAny_bind (wpAny_bind (wpAny_holding ?_))
  show wpAny _ _ (Builtin.SmallTypes.nextOf (.ref i1) >>= _) _ _ _
  refine wpAny_bind (wpAny_nextOf_tuple_item (s := { s with heap := h₁ }) (h1.extBut hs₁.extBut D.i1z) (hl1.extBut hs₁.extBut D.l1z) hx fun h₂ h1₂ hs₂ => wpAny_pure ?_)
  refine wpAny_pure ?_
  refine wpAny_bind (wpAny_bind (wpAny_holding ?_))
  show wpAny _ _ (Builtin.SmallTypes.nextOf (.ref i2) >>= _) _ _ _
  refine wpAny_bind (wpAny_nextOf_list_item (s := { s with heap := h₂ }) ((h2.extBut hs₁.extBut D.i2z).extBut hs₂.extBut D.i12.symm) ((hl2.extBut hs₁.extBut D.l2z).extBut hs₂.extBut D.l2i1) hy fun h₃ h2₃ hs₃ => wpAny_pure ?_)
  refine wpAny_pure (wpAny_pure ?_)
  show wpAny _ _ (newTuple [x, y] >>= _) _ _ _
  refine wpAny_bind (wpAny_newTuple ?_)
  have hsz : h₃.objs.size = s.heap.objs.size := by rw [hs₃.1, hs₂.1, hs₁.1]
  have hz₃ : IsZipHeld h₃ z TI TO T true := hs₃.extBut _ _ D.i2z.symm (hs₂.extBut _ _ D.i1z.symm hz₁)
  have hk : ∀ c o, c ≠ z → c ≠ i1 → c ≠ i2 → s.heap.get? c = some o → h₃.get? c = some o := fun c o c1 c2 c3 e => hs₃.extBut _ _ c3 (hs₂.extBut _ _ c2 (hs₁.extBut _ _ c1 e))
  have h1₃ : h₃.IsTupleIter i1 l1 (k1 + 1) := h1₂.extBut hs₃.extBut D.i12
  refine wpAny_pure ⟨_, rfl, wpAny_pure ?_⟩
  show Q (some (.ref h₃.objs.size)) _
  have hp : IsTupOf2 (h₃.push { cls := .type "tuple", data := .seq #[x, y] }) h₃.objs.size x y := Heap.get?_push_size _ rfl
  rw [hsz] at hp ⊢
  exact hQ _ (Heap.get?_push_of_some _ hz₃) (h1₃.at fun o e => Heap.get?_push_of_some _ e) (h2₃.at fun o e => Heap.get?_push_of_some _ e) hp fun c o c1 c2 c3 e => Heap.get?_push_of_some _ (hk c o c1 c2 c3 e)
theorem zipTL_end {z TI TO T i1 i2 l1 l2 : Addr} {f : Bool} {oT : Obj} {k1 k2 : Nat} {xs ys : Array Value} {Q : Option Value → Shared → Prop} (hh : A.handled = none) (D : ZipApart z TI TO i1 i2 l1 l2)
    (hz : IsZipHeld s.heap z TI TO T f) (hT : s.heap.get? T = some oT) (hTI : IsTupOf2 s.heap TI (.ref i1) (.ref i2))
    (h1 : s.heap.IsTupleIter i1 l1 k1) (h2 : s.heap.IsListIter i2 l2 k2) (hl1 : s.heap.IsTuple l1 xs) (hl2 : s.heap.IsList l2 ys) (hend : xs[k1]? = none ∨ ys[k2]? = none)
    (hQ : ∀ h', (∀ c o, c ≠ z → c ≠ i1 → c ≠ i2 → s.heap.get? c = some o → h'.get? c = some o) → Q none { s with heap := h' }) : wpAny (model prog w) A (pyNext (.ref z)) Q E s := by
  have hTy : s.TypeIs (.ref z) "zip" := ⟨_, hz, rfl⟩
  unfold pyNext
  have fin : ∀ (h' : Heap) (e : Addr), (∀ c o, c ≠ z → c ≠ i1 → c ≠ i2 → s.heap.get? c = some o → h'.get? c = some o) → (∃ o, h'.get? e = some o ∧ o.cls = .type "StopIteration") → wpAny (model prog w) A (isInstance (.ref e) (.type "StopIteration") >>= fun b => if b = true then pure none else throw (.ref e)) Q E { s with heap := h' } := by
    rintro h' e hk ⟨o, ho, hc⟩
    refine wpAny_bind (wpAny_isInstance (T := "StopIteration") (b := true) ⟨o, ho, hc⟩ isSubtype_stop ?_)
    exact wpAny_pure (hQ _ hk)
  refine wpAny_bind (wpAny_attempt (wpAny_callSpecial?_slot (name := Str.ofString "__next__") hTy PySem.F.slot_zip_next
    (wpAny_call_entry PySem.F.slot_zip_next hTy PySem.F.entry_zip_next ?_ (PySem.F.args_zip_next_1 _))))
  show wpAny _ _ (field (.ref z) 2 >>= _) _ _ _
  refine wpAny_bind (wpAny_field hz rfl (x := .bool false) rfl ?_)
  show wpAny _ _ (field (.ref z) 3 >>= _) _ _ _
  refine wpAny_bind (wpAny_field hz rfl (x := .ref TI) rfl ?_)
  refine wpAny_bind (wpAny_seqItems hTI rfl ?_)
  show wpAny _ _ (Builtin.SmallTypes.ownedTupleIsFree (.ref z) >>= _) _ _ _
  refine wpAny_bind (wpAny_tupleHeld_zip hz hT fun h₁ hz₁ hs₁ => ?_)
  simp only [Bool.false_eq_true, if_false]
  refine wpAny_bind ?_
  rw [← Array.forIn_toList]
  simp only [List.forIn_cons, List.forIn_nil]
  refine wpAny_bind (wpAny_bind (wpAny_holding ?_))
  show wpAny _ _ (Builtin.SmallTypes.nextOf (.ref i1) >>= _) _ _ _
  cases hx : xs[k1]? with
  | none =>
    refine wpAny_bind (wpAny_nextOf_tuple_end (s := { s with heap := h₁ }) hh (h1.extBut hs₁.extBut D.i1z) (hl1.extBut hs₁.extBut D.l1z) hx fun h₂ e hs₂ he => ?_)
    exact fin h₂ e (fun c o c1 c2 _ x => hs₂ _ _ c2 (hs₁.extBut _ _ c1 x)) he
  | some x =>
    have hy : ys[k2]? = none := by rcases hend with h | h; rw [hx] at h; cases h; exact h
    refine wpAny_bind (wpAny_nextOf_tuple_item (s := { s with heap := h₁ }) (h1.extBut hs₁.extBut D.i1z) (hl1.extBut hs₁.extBut D.l1z) hx fun h₂ h1₂ hs₂ => wpAny_pure ?_)
    refine wpAny_pure ?_
    refine wpAny_bind (wpAny_bind (wpAny_holding ?_))
    show wpAny _ _ (Builtin.SmallTypes.nextOf (.ref i2) >>= _) _ _ _
    refine wpAny_bind (wpAny_nextOf_list_end (s := { s with heap := h₂ }) hh ((h2.extBut hs₁.extBut D.i2z).extBut hs₂.extBut D.i12.symm) ((hl2.extBut hs₁.extBut D.l2z).extBut hs₂.extBut D.l2i1) hy fun h₃ e hs₃ he => ?_)
    exact fin h₃ e (fun c o c1 c2 c3 x => hs₃ _ _ c3 (hs₂.extBut _ _ c2 (hs₁.extBut _ _ c1 x))) he
end
structure ZS (h : Heap) (z TI TO i1 i2 l1 l2 S : Addr) (xs ys : Array Value) (i : Nat) : Prop where
  zz : IsZip h z TI TO .none ∨ ∃ (T : Addr) (f : Bool) (oT : Obj), IsZipHeld h z TI TO T f ∧ h.get? T = some oT ∧ T ≠ S ∧ T ≠ z ∧ T ≠ TO ∧ T ≠ i1 ∧ T ≠ i2
  ti : IsTupOf2 h TI (.ref i1) (.ref i2)
  to : ∃ a b, IsTupOf2 h TO a b
  s1 : h.IsTupleIter i1 l1 i
  s2 : h.IsListIter i2 l2 i
  t1 : h.IsTuple l1 xs
  t2 : h.IsList l2 ys
theorem ZS.keep {h h' : Heap} {z TI TO i1 i2 l1 l2 S : Addr} {xs ys : Array Value} {i : Nat} (Z : ZS h z TI TO i1 i2 l1 l2 S xs ys i) (nS : ∀ b ∈ [z, TI, TO, i1, i2, l1, l2], b ≠ S) (k : ∀ b o, b ≠ S → h.get? b = some o → h'.get? b = some o) : ZS h' z TI TO i1 i2 l1 l2 S xs ys i := by
  refine ⟨?_, k _ _ (nS TI (by simp)) Z.ti, ?_, Z.s1.at fun o e => k _ o (nS i1 (by simp)) e, Z.s2.at fun o e => k _ o (nS i2 (by simp)) e, Z.t1.at fun o e => k _ o (nS l1 (by simp)) e, Z.t2.at fun o e => k _ o (nS l2 (by simp)) e⟩
  · rcases Z.zz with h | ⟨T, f, oT, a, b, n, r⟩
    · exact Or.inl (k _ _ (nS z (by simp)) h)
    · exact Or.inr ⟨T, f, oT, k _ _ (nS z (by simp)) a, k _ _ n b, n, r⟩
  · obtain ⟨a, b, h⟩ := Z.to
    exact ⟨a, b, k _ _ (nS TO (by simp)) h⟩
section
variable {prog : Program} {w : World} {A : Around} {E : Value → Shared → Prop} {s : Shared} {z TI TO i1 i2 l1 l2 S : Addr} {xs ys : Array Value} {i : Nat}
theorem zsep (D : ZipApart z TI TO i1 i2 l1 l2) : ZipSep2 z TI TO i1 i2 [i1, l1] [i2, l2] where
  TIz := D.TIz
  TOz := D.TOz
  TITO := D.TITO
  TIi1 := D.TIi1
  mem1 := by simp
  zf1 := by simp [D.i1z.symm, D.l1z.symm]
  Tf1 := by simp [D.TOi1, D.l1TO.symm]
  TIi2 := D.TIi2
  mem2 := by simp
  zf2 := by simp [D.i2z.symm, D.l2z.symm]
  Tf2 := by simp [D.TOi2, D.l2TO.symm]
  sep1_2 := by simp [D.i12, D.l2i1.symm]
  sep2_1 := by simp [D.i12.symm, D.l1i2.symm]
theorem zs_item {Q : Option Value → Shared → Prop} (hh : A.handled = none) (D : ZipApart z TI TO i1 i2 l1 l2) (Z : ZS s.heap z TI TO i1 i2 l1 l2 S xs ys i) (hi : i < xs.size) (hi2 : i < ys.size) (hS : S < s.heap.objs.size)
    (hQ : ∀ h' tk u v, xs[i]? = some u → ys[i]? = some v → ZS h' z TI TO i1 i2 l1 l2 S xs ys (i + 1) → IsTupOf2 h' s.heap.objs.size u v → (∀ c o, c ∉ [z, TO, i1, i2] → s.heap.get? c = some o → h'.get? c = some o) → Q (some (.ref s.heap.objs.size)) { s with heap := h', toks := tk }) :
    wpAny (model prog w) A (pyNext (.ref z)) Q E s := by
  have out : ∀ {h' : Heap}, (∀ c o, c ≠ z → c ≠ TO → c ≠ i1 → c ≠ i2 → s.heap.get? c = some o → h'.get? c = some o) → ∀ c o, c ∉ [z, TO, i1, i2] → s.heap.get? c = some o → h'.get? c = some o := fun k c o hc e =>
    k c o (fun q => hc (by simp [q])) (fun q => hc (by simp [q])) (fun q => hc (by simp [q])) (fun q => hc (by simp [q])) e
  obtain ⟨p, q, hTO⟩ := Z.to
  rcases Z.zz with hz | ⟨T, f, oT, hz, hT, n1, n2, n3, n4, n5⟩
  · refine wpAny_pyNext_zipD2_item (zsep D) (Draws.tuple (prog := prog) (w := w) (A := A.in1) hh i1 l1 D.l1i1 xs) (Draws.list (prog := prog) (w := w) (A := A.in1) hh i2 l2 D.l2i2 ys) hz Z.ti hTO ⟨Z.s1, Z.t1⟩ ⟨Z.s2, Z.t2⟩ hi hi2 fun x1 x2 h' tk y1 y2 b1 b2 d1 d2 b5 b6 hk => ?_
    have lt : ∀ {c o}, s.heap.get? c = some o → s.heap.objs.size ≠ c := fun e => Nat.ne_of_gt (Heap.lt_size e)
    have g1 : s.heap.objs.size ≠ i1 := by obtain ⟨_, e, _⟩ := Z.s1; exact lt e
    have g2 : s.heap.objs.size ≠ i2 := by obtain ⟨_, e, _⟩ := Z.s2; exact lt e
    exact hQ h' tk x1 x2 y1 y2 ⟨Or.inr ⟨_, false, _, b1, b5, Nat.ne_of_gt hS, lt hz, lt hTO, g1, g2⟩, hk _ _ D.TIz D.TITO D.TIi1 D.TIi2 Z.ti, ⟨_, _, b2⟩, d1.1, d2.1, d1.2, d2.2⟩ b5 (out hk)
  · obtain ⟨u, hu⟩ : ∃ u, xs[i]? = some u := ⟨_, Array.getElem?_eq_getElem hi⟩
    obtain ⟨v, hv⟩ : ∃ v, ys[i]? = some v := ⟨_, Array.getElem?_eq_getElem hi2⟩
    refine zipTL_item D hz hT Z.ti Z.s1 Z.s2 Z.t1 Z.t2 hu hv fun h' a1 a2 a3 a4 hk => ?_
    exact hQ h' s.toks u v hu hv ⟨Or.inr ⟨T, true, oT, a1, hk _ _ n2 n4 n5 hT, n1, n2, n3, n4, n5⟩, hk _ _ D.TIz D.TIi1 D.TIi2 Z.ti, ⟨p, q, hk _ _ D.TOz D.TOi1 D.TOi2 hTO⟩, a2, a3, Z.t1.at fun o e => hk _ o D.l1z D.l1i1 D.l1i2 e, Z.t2.at fun o e => hk _ o D.l2z D.l2i1 D.l2i2 e⟩ a4
      (out fun c o c1 _ c3 c4 e => hk c o c1 c3 c4 e)
theorem zs_end {Q : Option Value → Shared → Prop} (hh : A.handled = none) (D : ZipApart z TI TO i1 i2 l1 l2) (Z : ZS s.heap z TI TO i1 i2 l1 l2 S xs ys i) (hi : i ≤ xs.size) (hi2 : i ≤ ys.size) (hend : i = xs.size ∨ i = ys.size)
    (hQ : ∀ h' tk, (∀ c o, c ∉ [z, TO, i1, i2] → s.heap.get? c = some o → h'.get? c = some o) → Q none { s with heap := h', toks := tk }) : wpAny (model prog w) A (pyNext (.ref z)) Q E s := by
  have out : ∀ {h' : Heap}, (∀ c o, c ≠ z → c ≠ TO → c ≠ i1 → c ≠ i2 → s.heap.get? c = some o → h'.get? c = some o) → ∀ c o, c ∉ [z, TO, i1, i2] → s.heap.get? c = some o → h'.get? c = some o := fun k c o hc e =>
    k c o (fun q => hc (by simp [q])) (fun q => hc (by simp [q])) (fun q => hc (by simp [q])) (fun q => hc (by simp [q])) e
  obtain ⟨p, q, hTO⟩ := Z.to
  rcases Z.zz with hz | ⟨T, f, oT, hz, hT, _⟩
  · exact wpAny_pyNext_zipD2_end (zsep D) (Draws.tuple (prog := prog) (w := w) (A := A.in1) hh i1 l1 D.l1i1 xs) (Draws.list (prog := prog) (w := w) (A := A.in1) hh i2 l2 D.l2i2 ys) hz Z.ti hTO ⟨Z.s1, Z.t1⟩ ⟨Z.s2, Z.t2⟩ hi hi2 hend fun h' tk hk => hQ h' tk (out hk)
  · refine zipTL_end hh D hz hT Z.ti Z.s1 Z.s2 Z.t1 Z.t2 (hend.elim (fun e => Or.inl ?_) fun e => Or.inr ?_) fun h' hk => hQ h' s.toks (out fun c o c1 _ c3 c4 e => hk c o c1 c3 c4 e)
    · exact Array.getElem?_eq_none (by omega)
    · exact Array.getElem?_eq_none (by omega)
end
section
variable {X : Cx} {pins : List (Addr × Obj)} {σ : L2.St}
theorem upd_turn {H : Hp} {S T : Addr} {a b c : HO} (h : T ≠ S) : upd (upd (upd H S a) T b) S c = upd (upd H T b) S c := by
  funext x
  by_cases e : x = S
  · subst e
    rw [upd_same, upd_same]
  · rw [upd_ne e, upd_ne e]
    by_cases e2 : x = T
    · subst e2
      rw [upd_same, upd_same]
    · rw [upd_ne e2, upd_ne e2, upd_ne e]
theorem zl_loop {R : Result → Shared → Prop} {z TI TO i1 i2 l1 l2 S : Addr} {xs ys : List V} {its its2 : List Value} {A : Around} (hh : A.handled = none) (D : ZipApart z TI TO i1 i2 l1 l2) (Pp : List Addr → Hp → Prop) (res : Value)
    (rv : Vals xs its) (rv2 : Vals ys its2) (hz : xs.length ≤ sizeLine) (nS : ∀ b ∈ [z, TI, TO, i1, i2, l1, l2], b ≠ S)
    (step : ∀ as H x y T, Pp as H → xs[as.length]? = some x → ys[as.length]? = some y → H T = none → Pp (as ++ [T]) (upd H T (.tup [x, y])))
    (fin : ∀ as H s', as.length = min xs.length ys.length → Pp as H → H S = none → Inv X pins σ (upd H S (.lst (as.map V.ref))) s' → R (.ok (.ret res)) s') :
    ∀ (k i : Nat) (s : Shared) (H : Hp) (as : List Addr), min xs.length ys.length - i = k → as.length = i → i ≤ min xs.length ys.length → Inv X pins σ (upd H S (.lst (as.map V.ref))) s → H S = none → Pp as H → ZS s.heap z TI TO i1 i2 l1 l2 S its.toArray its2.toArray i →
      (∀ b ∈ [z, TO, i1, i2], FpOk X pins H b) → codeAny (model X.prog X.w) A (.builtin "list.extend.loop" ⟨[.ref S, .ref z, res], []⟩) R s := by
  have e1 : its.toArray.size = xs.length := by rw [List.size_toArray, rv.length]
  have e2 : its2.toArray.size = ys.length := by rw [List.size_toArray, rv2.length]
  have sub : ∀ b ∈ [z, TO, i1, i2], b ≠ S := fun b hb => nS b (by
    simp only [List.mem_cons, List.not_mem_nil, or_false] at hb ⊢
    rcases hb with e | e | e | e <;> simp [e])
  intro k
  induction k with
  | zero =>
    intro i s H as hk hl hi I hS hp Z hf
    refine codeAny_builtin PySem.F.entry_extend_loop ?_
    rw [Around.under_plainId PySem.F.plain_extend_loop _]
    show wpAny _ A.in1 (pyNext (.ref z) >>= _) _ _ s
    refine wpAny_bind (zs_end (A := A.in1) hh D Z (by omega) (by omega) (by omega) fun h' tk hk' => ?_)
    exact wpAny_pure (fin as H _ (by omega) hp hS (I.turnedL (ch := [z, TO, i1, i2]) hk' fun b hb => FpOk.to (hf b hb) (by rw [upd_ne (sub b hb)]; exact (hf b hb).1)))
  | succ k ih =>
    intro i s H as hk hl hi I hS hp Z hf
    refine codeAny_builtin PySem.F.entry_extend_loop ?_
    rw [Around.under_plainId PySem.F.plain_extend_loop _]
    show wpAny _ A.in1 (pyNext (.ref z) >>= _) _ _ s
    have hSl : S < s.heap.objs.size := I.hok.lt upd_same
    refine wpAny_bind (zs_item (A := A.in1) hh D Z (by omega) (by omega) hSl fun h' tk u v hu hv Z' hT hk' => ?_)
    obtain ⟨x, hx⟩ : ∃ x, xs[i]? = some x := ⟨_, List.getElem?_eq_getElem (by omega)⟩
    obtain ⟨y, hy⟩ : ∃ y, ys[i]? = some y := ⟨_, List.getElem?_eq_getElem (by omega)⟩
    obtain ⟨u', hu', ru⟩ := rv.get hx
    obtain ⟨v', hv', rvv⟩ := rv2.get hy
    have : u' = u := by
      have hu2 : its[i]? = some u := by simpa using hu
      rw [hu2] at hu'
      cases hu'
      rfl
    subst this
    have : v' = v := by
      have hv2 : its2[i]? = some v := by simpa using hv
      rw [hv2] at hv'
      cases hv'
      rfl
    subst this
    have TS : s.heap.objs.size ≠ S := Nat.ne_of_gt hSl
    have hHT : H s.heap.objs.size = none := by
      have := I.hok.fresh (Nat.le_refl s.heap.objs.size)
      rwa [upd_ne TS] at this
    have I1 : Inv X pins σ (upd (upd H S (.lst (as.map V.ref))) s.heap.objs.size (.tup [x, y])) { s with heap := h', toks := tk } :=
      I.turnedNew (ch := [z, TO, i1, i2]) hk' (fun b hb => FpOk.to (hf b hb) (by rw [upd_ne (sub b hb)]; exact (hf b hb).1)) (Nat.le_refl _) ⟨by show 2 ≤ sizeLine; decide, [u', v'], .cons ru (.cons rvv .nil), ⟨_, hT, rfl, _, rfl⟩⟩
    have hSS : upd (upd H S (.lst (as.map V.ref))) s.heap.objs.size (.tup [x, y]) S = some (.lst (as.map V.ref)) := by rw [upd_ne TS.symm, upd_same]
    obtain ⟨its', n', r', e', _⟩ := I1.lst hSS
    have l' : its'.length = i := by rw [← r'.length, List.length_map, hl]
    show wpAny _ A.in1 (updateSeq S (·.push (.ref s.heap.objs.size)) >>= _) _ _ _
    refine wpAny_bind ?_
    have I2 := I1.lset (t' := tk) (ys := (as ++ [s.heap.objs.size]).map V.ref) (its' := its' ++ [.ref s.heap.objs.size]) (f := (·.push (.ref s.heap.objs.size))) hSS e' (by simp) (by rw [List.map_append]; exact r'.append (.cons rfl .nil)) (by rw [List.length_map, List.length_append, List.length_singleton]; omega)
    rw [upd_turn TS] at I2
    refine wpAny_updateSeq e' rfl (wpAny_pure ⟨plainId_quiet PySem.F.plain_extend_loop _, ih (i + 1) _ (upd H s.heap.objs.size (.tup [x, y])) (as ++ [s.heap.objs.size]) (by omega) (by rw [List.length_append, hl]; rfl) (by omega) I2 (by rw [upd_ne TS.symm]; exact hS) (step as H x y _ hp (by rw [hl]; exact hx) (by rw [hl]; exact hy) hHT)
      (Z'.keep nS fun b o hb e => (Heap.get?_update_other _ _ (Ne.symm hb)).trans e) fun b hb => ?_⟩) (by rw [List.size_toArray, l']; omega) (by show (its'.toArray.push _).size ≤ sizeLine + 1; rw [Array.size_push, List.size_toArray, l']; omega)
    refine FpOk.to (hf b hb) ?_
    have nb : b ≠ s.heap.objs.size := by
      have hb' : b = z ∨ b = TO ∨ b = i1 ∨ b = i2 := by simpa using hb
      rcases hb' with e | e | e | e
      · subst e
        rcases Z.zz with q | ⟨_, _, _, q, _⟩
        · exact Nat.ne_of_lt (Heap.lt_size q)
        · exact Nat.ne_of_lt (Heap.lt_size q)
      · subst e
        obtain ⟨_, _, q⟩ := Z.to
        exact Nat.ne_of_lt (Heap.lt_size q)
      · subst e
        obtain ⟨_, q, _⟩ := Z.s1
        exact Nat.ne_of_lt (Heap.lt_size q)
      · subst e
        obtain ⟨_, q, _⟩ := Z.s2
        exact Nat.ne_of_lt (Heap.lt_size q)
    rw [upd_ne nb]
    exact (hf b hb).1
end
end Cr

set_option Elab.async false
set_option linter.all false
set_option maxRecDepth 100000
set_option maxHeartbeats 4000000
namespace Cr
open PySem PySem.Spec PyProof.Rows L2
section
variable {X : Cx} {pins : List (Addr × Obj)} {σ : L2.St}
theorem zl_call {H : Hp} {s : Shared} {z TI TO i1 i2 l1 l2 : Addr} {xs ys : List V} {its its2 : List Value} {Q : VK} (hh : X.A.handled = none) (D : ZipApart z TI TO i1 i2 l1 l2) (Pp : List Addr → Hp → Prop)
    (rv : Vals xs its) (rv2 : Vals ys its2) (hz : xs.length ≤ sizeLine) (I : Inv X pins σ H s) (Z : ∀ S, S = s.heap.objs.size → ZS s.heap z TI TO i1 i2 l1 l2 S its.toArray its2.toArray 0) (hf : ∀ b ∈ [z, TO, i1, i2], FpOk X pins H b)
    (low : ∀ b ∈ [z, TI, TO, i1, i2, l1, l2], b < s.heap.objs.size) (p0 : Pp [] H)
    (step : ∀ as H x y T, Pp as H → xs[as.length]? = some x → ys[as.length]? = some y → H T = none → Pp (as ++ [T]) (upd H T (.tup [x, y])))
    (fin : ∀ as H S, as.length = min xs.length ys.length → Pp as H → H S = none → Q (.ref S) (upd H S (.lst (as.map V.ref)))) :
    wpAny (model X.prog X.w) X.A (call (.type "list") [.ref z]) (EP X pins σ Q) X.xe s := by
  have zS : s.heap.objs.size ≠ z := Nat.ne_of_gt (low z (by simp))
  refine callType_codes (Q₁ := fun obj s₁ => obj = .ref s.heap.objs.size ∧ s₁ = { s with heap := s.heap.push { cls := .type "list", data := .seq #[] } }) PySem.F.called_list (PySem.F.typeCall_list_1 _) PySem.F.entry_list_init
    (code_list_new _ ⟨rfl, rfl⟩) fun obj s₁ h₁ => ?_
  obtain ⟨rfl, rfl⟩ := h₁
  have hS : (s.heap.push { cls := .type "list", data := .seq #[] }).get? s.heap.objs.size = some { cls := .type "list", data := .seq #[] } := Heap.get?_push_size _ rfl
  refine ⟨⟨_, hS, rfl⟩, PySem.F.args_list_init_2 _ _, ?_⟩
  show wpAny _ X.A.in1.in1 (do let old ← Builtin.List.listItems (.ref s.heap.objs.size); Builtin.List.listUpdate (.ref s.heap.objs.size) (fun _ => #[]); letGo old.toList.reverse; Builtin.List.listExtendWith (.ref s.heap.objs.size) (.ref z) .none) _ _ _
  refine wpAny_bind ?_
  unfold Builtin.List.listItems
  refine wpAny_bind (wpAny_seqItems hS rfl (wpAny_pure ?_))
  show wpAny _ X.A.in1.in1 (updateSeq s.heap.objs.size (fun _ => #[]) >>= fun _ => letGo (#[] : Array Value).toList.reverse >>= fun _ => Builtin.List.listExtendWith (.ref s.heap.objs.size) (.ref z) .none) _ _ _
  refine wpAny_bind (wpAny_updateSeq hS rfl ?_)
  have hS2 := Heap.get?_update_self (Obj.mapSeq (fun _ => (#[] : Array Value))) hS rfl
  refine wpAny_bind (wpAny_letGo ?_)
  unfold Builtin.List.listExtendWith
  have up : ∀ (h : Heap) (f : Obj → Obj), (∀ b o, s.heap.get? b = some o → h.get? b = some o) → ∀ b o, s.heap.get? b = some o → (h.update s.heap.objs.size f).get? b = some o := fun h f q b o e =>
    (Heap.get?_update_other _ _ (Ne.symm (Nat.ne_of_lt (Heap.lt_size e)))).trans (q b o e)
  have k1 : ∀ b o, s.heap.get? b = some o → (s.heap.push { cls := .type "list", data := .seq #[] }).get? b = some o := fun b o e => Heap.get?_push_of_some _ e
  have k2 := up _ (Obj.mapSeq (fun _ => (#[] : Array Value))) k1
  have Z0 := (Z _ rfl).zz
  have hz0 : IsZip s.heap z TI TO .none ∨ ∃ (T : Addr) (f : Bool), IsZipHeld s.heap z TI TO T f := Z0.elim Or.inl fun ⟨T, f, _, q, _⟩ => Or.inr ⟨T, f, q⟩
  have zt : ∀ {h : Heap}, (∀ b o, s.heap.get? b = some o → h.get? b = some o) → ({ s with heap := h } : Shared).TypeIs (.ref z) "zip" := fun {h} q => hz0.elim (fun e => ⟨_, q _ _ e, rfl⟩) fun ⟨_, _, e⟩ => ⟨_, q _ _ e, rfl⟩
  refine wpAny_bind (wpAny_typeOf (zt k2) ?_)
  have h1 : Builtin.List.listSameRef (.ref s.heap.objs.size) (.ref z) = false := by simp [Builtin.List.listSameRef, zS]
  have h2 : (Value.type "zip" == Value.type "list") = false := by decide
  have h3 : (Value.type "zip" == Value.type "tuple") = false := by decide
  simp only [h1, h2, h3, Bool.or_false, Bool.false_eq_true, if_false]
  refine wpAny_bind ?_
  have it : ∀ {Q : Value → Shared → Prop} {E : Value → Shared → Prop} {h : Heap} {A : Around}, (∀ b o, s.heap.get? b = some o → h.get? b = some o) → Q (.ref z) { s with heap := h } → wpAny (model X.prog X.w) A (pyIter (.ref z)) Q E { s with heap := h } := fun {Q E h A} q hq => by
    refine wpAny_pyIter_slot (zt q) PySem.F.slot_zip_iter (wpAny_call_entry PySem.F.slot_zip_iter (zt q) PySem.F.entry_zip_iter ?_ (PySem.F.args_zip_iter_1 _))
    show wpAny _ _ (ret (.ref z)) _ _ _
    exact wpAny_pure ⟨_, rfl, "zip", _, zt q, PySem.F.slot_zip_next.lookup, hq⟩
  refine it k2 ?_
  refine wpAny_bind (wpAny_holding ?_)
  unfold Builtin.List.listLengthHint
  refine wpAny_bind (wpAny_specialOf (zt k2) zip_nolen ?_)
  show wpAny _ X.A.in1.in1 (specialOf (Value.ref z) (Str.ofString "__length_hint__") >>= _) _ _ _
  refine wpAny_bind (wpAny_specialOf (zt k2) zip_nohint ?_)
  refine wpAny_pure ?_
  show wpAny _ X.A.in1.in1 (rule "list.extend.makes-room" >>= fun _ => Builtin.List.listTouch (.ref s.heap.objs.size) >>= fun _ =>
    again (.builtin "list.extend.loop" ⟨[.ref s.heap.objs.size, .ref z, .none], []⟩)) _ _ _
  refine wpAny_bind (wpAny_rule ?_)
  refine wpAny_bind ?_
  show wpAny _ X.A.in1.in1 (updateSeq s.heap.objs.size (·.push .none) >>= fun _ => updateSeq s.heap.objs.size (·.pop)) _ _ _
  refine wpAny_bind (wpAny_updateSeq hS2 rfl ?_)
  have hS3 := Heap.get?_update_self (Obj.mapSeq (·.push Value.none)) hS2 rfl
  refine wpAny_updateSeq (hz := by seq_fits) hS3 rfl ?_
  have hS4 := Heap.get?_update_self (Obj.mapSeq (·.pop)) hS3 rfl
  have k4 := up _ (Obj.mapSeq (·.pop)) (up _ (Obj.mapSeq (·.push Value.none)) k2)
  refine wpAny_pure ⟨plainId_quiet PySem.F.plain_extend_loop _, ?_⟩
  have nS : ∀ b ∈ [z, TI, TO, i1, i2, l1, l2], b ≠ s.heap.objs.size := fun b hb => Nat.ne_of_lt (low b hb)
  have hS0 : H s.heap.objs.size = none := I.hok.fresh (Nat.le_refl _)
  refine zl_loop (X := X) (pins := pins) (σ := σ) (A := X.A.in1) hh D Pp .none rv rv2 hz nS step (fun as H2 s' hl hp hSn I2 => ?_) (min xs.length ys.length) 0 _ H [] (Nat.sub_zero _) rfl (Nat.zero_le _)
    (I.laid (t' := s.toks) k4 (Nat.le_refl _) ⟨Nat.zero_le _, [], _, .nil, hS4⟩) hS0 p0 ((Z _ rfl).keep nS fun b o _ e => k4 b o e) hf
  exact ⟨rfl, V.ref s.heap.objs.size, _, I2, rfl, fin as H2 _ hl hp hSn⟩
def tZL (K : PySem.W.Frag) (ta : TA) : TE := fun σ H Q => ta σ H fun vs H1 => ∃ a b xs ys, vs = [.ref a, .ref b] ∧ SqT K H1 a xs ∧ SqL K H1 b ys ∧ ∃ Pp : List Addr → Hp → Prop, Pp [] H1 ∧
  (∀ as H x y T, Pp as H → xs[as.length]? = some x → ys[as.length]? = some y → H T = none → Pp (as ++ [T]) (upd H T (.tup [x, y]))) ∧ ∀ as H S, as.length = min xs.length ys.length → Pp as H → H S = none → Q (.ref S) (upd H S (.lst (as.map V.ref)))
theorem pe_listZip {e e2 : Expr} {ta : TA} {p p2 pos pos2 : Pos} (hc : X.calm = true) (hg : Gl X "list") (hm : X.mg "list" = none) (gz : Gl X "zip") (mz : X.mg "zip" = none) (ha : PA X [e, e2] ta)
    (hs1 : starEach [.Call (.Name "zip" p2) [e, e2] [] pos2] X.env = (false, eval (.Call (.Name "zip" p2) [e, e2] [] pos2) X.env) :: starEach [] X.env := by rfl)
    (hs : starEach [e, e2] X.env = (false, eval e X.env) :: starEach [e2] X.env := by rfl) (hpl : (backTo pos2 (starEach [e2] X.env)).any (·.1) = false := by rfl) :
    PE X (.Call (.Name "list" p) [.Call (.Name "zip" p2) [e, e2] [] pos2] [] pos) (tZL X.K ta) := by
  refine ⟨fun pins s σ H Q I h => ?_⟩
  refine Call_ (ld_blt I hg hm Pv.boot_list (PyProof.Rows.callWith_type1 ?_ hs1 rfl))
  rw [hs1]
  show wpAny _ _ (spliced ((false, eval (.Call (.Name "zip" p2) [e, e2] [] pos2) X.env) :: backTo pos (starEach [] X.env))) _ _ s
  refine Calls.spliced_cons ?_
  refine Call_ (ld_blt I gz mz PyProof.Rows.boot_zip (PyProof.Rows.callWith_type1 (thn (ha.run pos2 pins s σ H _ I h) fun us s1 ⟨vs, H1, I1, r1, q1⟩ => ?_) hs hpl))
  obtain ⟨a, b, xs, ys, ex, hqx, hqy, Pp, p0, step, fin⟩ := q1
  subst ex
  cases r1 with
  | cons r rr =>
    cases rr with
    | cons r' rr =>
      cases rr
      cases r
      cases r'
      obtain ⟨its, rv, p1, hz⟩ := I1.tuple hqx
      obtain ⟨its2, rv2, p3, _⟩ := I1.list hqy
      have la : a < s1.heap.objs.size := by
        obtain ⟨o1, ho1, _⟩ := id p1
        exact Heap.lt_size ho1
      have lb : b < s1.heap.objs.size := p3.lt
      have p1' : s1.heap.IsTuple a its.toArray := p1
      refine zip_begins2 (begins_tuple a its.toArray) (begins_list b its2.toArray) p1' p3.isList fun h' hzz hTI hTO h1 h2 hsz hk => ?_
      refine Calls.spliced_nil ?_
      have I2 : Inv X pins σ H1 { s1 with heap := h' } := I1.kept (t' := s1.toks) hk
      have fr : ∀ c, s1.heap.objs.size ≤ c → FpOk X pins H1 c := fun c hle => I1.fpOk hle (I1.hok.fresh hle)
      refine zl_call (X := X) (pins := pins) (σ := σ) (I.ok.hd hc) (PySem.W.ktu_apart s1.heap.objs.size a b la lb) Pp rv rv2 hz I2 (fun S _ => ⟨Or.inl hzz, hTI, ⟨_, _, hTO⟩, ⟨_, h1, rfl, rfl⟩, ⟨_, h2, rfl, rfl⟩, p1'.at fun o q => hk _ o q, p3.isList.at fun o q => hk _ o q⟩) (fun c hcm => ?_) (fun c hcm => ?_) p0 step fin
      · simp only [List.mem_cons, List.not_mem_nil, or_false] at hcm
        refine fr c ?_
        rcases hcm with e | e | e | e <;> subst e <;> first | exact Nat.le_add_right _ _ | exact Nat.le_refl _
      · simp only [List.mem_cons, List.not_mem_nil, or_false] at hcm
        show c < h'.objs.size
        rw [hsz]
        have la' : (a : Nat) < s1.heap.objs.size := la
        have lb' : (b : Nat) < s1.heap.objs.size := lb
        rcases hcm with e | e | e | e | e | e | e <;> subst e
        · exact Nat.lt_succ_self _
        · exact Nat.add_lt_add_left (by decide) _
        · exact Nat.add_lt_add_left (by decide) _
        · exact Nat.lt_add_of_pos_right (by decide)
        · exact Nat.add_lt_add_left (by decide) _
        · exact Nat.lt_of_lt_of_le la (Nat.le_add_right _ _)
        · exact Nat.lt_of_lt_of_le lb (Nat.le_add_right _ _)
end
section
variable {ι : Type} {F : ι → Cx} {P : Program} {w : World} {K : PySem.W.Frag} {mg : Str → Option Value} {base : Heap} {N : List Str} {k : Nat} {sc : Scope} {W : Wd} {env : List Sl}
def zipD (ds es : List PyData) : List PyData := (ds.zip es).map fun p => .tuple [p.1, p.2]
theorem zipD_take (ds es : List PyData) (i : Nat) {d e : PyData} (h1 : ds[i]? = some d) (h2 : es[i]? = some e) : (zipD ds es).take (i + 1) = (zipD ds es).take i ++ [.tuple [d, e]] := by
  have : (zipD ds es)[i]? = some (.tuple [d, e]) := by
    unfold zipD
    rw [List.getElem?_map, show (ds.zip es)[i]? = some (d, e) from List.getElem?_zip_eq_some.mpr ⟨h1, h2⟩]
    rfl
  rw [List.take_succ, this]
  rfl
theorem zipD_len (ds es : List PyData) : (zipD ds es).length = min ds.length es.length := by unfold zipD; rw [List.length_map, List.length_zip]
/-- list(zip(t, l)) -/
theorem e_listZip (fm : Fam P w K mg base N k sc F) {e e2 : Expr} {p p2 pos pos2 : Pos} {ds es : List PyData} (ha : A1 F W K [e, e2] env [.tuple ds, .list es]) (hm : mg "list" = none) (mz : mg "zip" = none) (hg : glB sc "list" = true := by decide +kernel) (gz : glB sc "zip" = true := by decide +kernel)
    (hs1 : ∀ i, starEach [.Call (.Name "zip" p2) [e, e2] [] pos2] (F i).env = (false, eval (.Call (.Name "zip" p2) [e, e2] [] pos2) (F i).env) :: starEach [] (F i).env := by intro _; rfl)
    (hs : ∀ i, starEach [e, e2] (F i).env = (false, eval e (F i).env) :: starEach [e2] (F i).env := by intro _; rfl) (hpl : ∀ i, (backTo pos2 (starEach [e2] (F i).env)).any (·.1) = false := by intro _; rfl) :
    E1 F W K (.Call (.Name "list" p) [.Call (.Name "zip" p2) [e, e2] [] pos2] [] pos) env (.dat (.list (zipD ds es))) := by
  intro σ H i sd Q q
  refine ⟨tZL K (WA F [e, e2]), fun z => ?_, ?_⟩
  · have := pe_listZip (X := F z) (p := p) (p2 := p2) (pos := pos) (pos2 := pos2) (fm.ca z) (gl_of (fm.es z) hg) (by rw [fm.mg z]; exact hm) (gl_of (fm.es z) gz) (by rw [fm.mg z]; exact mz) (wa_pa (F := F) (es := [e, e2]) z) (hs1 z) (hs z) (hpl z)
    rwa [fm.kk z] at this
  · refine ha σ H i sd _ fun vs H1 rs x1 i1 d1 h1 => ?_
    subst h1
    have dn := dn_of_sd d1
    cases dn with
    | cons a t =>
      cases t with
      | cons b t =>
        cases t
        cases a with
        | @tup pa xs _ la da =>
          cases b with
          | @lst pb ys _ lb db =>
            refine ⟨pa, pb, xs, ys, rfl, la.sq, lb.sq, fun as H2 => Wx W H1 H2 ∧ W.I H2 ∧ DnAll W K H2 (as.map V.ref) ((zipD ds es).take as.length), ⟨Wx.refl W H1, i1, .nil⟩, ?_, ?_⟩
            · rintro as H2 x y T ⟨x2, i2, d2⟩ hx hy hT
              obtain ⟨d, hd1, dn1⟩ := da.getV hx
              obtain ⟨d', hd2, dn2⟩ := db.getV hy
              obtain ⟨x3, i3, dT⟩ := new_tup (K := K) (vs := [x, y]) (ds := [d, d']) i2 hT (.cons (dn1.mono x2) (.cons (dn2.mono x2) .nil))
              refine ⟨x2.trans x3, i3, ?_⟩
              rw [List.map_append, List.length_append, List.length_singleton, zipD_take ds es as.length hd1 hd2]
              exact (d2.mono x3).append (.cons dT .nil)
            · rintro as H2 S hl ⟨x2, i2, d2⟩ hS
              rw [List.take_of_length_le (by rw [zipD_len, hl, da.length, db.length]; exact Nat.le_refl _)] at d2
              obtain ⟨x3, i3, d3⟩ := new_lst i2 hS d2
              exact q _ _ _ ((x1.trans x2).trans x3) i3 d3.dv rfl
end
end Cr

set_option Elab.async false
set_option linter.all false
set_option maxRecDepth 100000
set_option maxHeartbeats 200000
namespace Cr
open PySem PySem.Spec PyProof.Rows L2

/-! ## comprehensions over a list of pairs, two names -/
section
variable {ι : Type} {F : ι → Cx} {P : Program} {w : World} {K : PySem.W.Frag} {mg : Str → Option Value} {base : Heap} {N : List Str} {k : Nat} {sc : Scope} {W : Wd} {env : List Sl}
theorem dn_tup2 {H : Hp} {v : V} {a b : PyData} (h : Dn W K H v (.tuple [a, b])) : ∃ p ua ub, v = .ref p ∧ SqT K H p [ua, ub] ∧ Dn W K H ua a ∧ Dn W K H ub b := by
  cases h with
  | tup la d =>
    cases d with
    | cons x t =>
      cases t with
      | cons y t =>
        cases t
        exact ⟨_, _, _, rfl, la.sq, x, y⟩
theorem wipe_set2 {σ : L2.St} {v u : V} {j j2 : Nat} (h : j ≠ j2) : L2.wipe (((L2.wipe σ [j, j2]).set j (some v)).set j2 (some u)) [j, j2] = L2.wipe σ [j, j2] := by
  show ((((((σ.set j2 none).set j none).set j (some v)).set j2 (some u)).set j2 none).set j none) = (σ.set j2 none).set j none
  rw [List.set_set, List.set_set, List.set_comm (some v) none h, List.set_set, List.set_set]
theorem lc_turns2 {elt : Expr} {ifs : List Expr} {scope : Scope} {j j2 : Nat} {ds : List PyData} {xs : List V} {a D : Addr} {H1 : Hp} {σ : L2.St} {f : Nat → Bool} {R : Nat → PyData → Prop} {Q : VK} (i1 : W.I H1) (sd : Sd W K H1 σ env) (la : LA W K H1 a xs) (da : DnAll W K H1 xs ds) (hD : H1 D = none) (hz : ds.length ≤ sizeLine)
    (hj : j ≠ j2) (hpr : ∀ (i : Nat) (d : PyData), ds[i]? = some d → ∃ a b, d = PyData.tuple [a, b]) (ht : ∀ (i : Nat) (a b : PyData) D acc, ds[i]? = some (PyData.tuple [a, b]) → ¬ W.M D → EvIf (FB F scope) (W.plus D (.lst acc)) K ifs (((wipeE env [j, j2]).set j (.dat a)).set j2 (.dat b)) (f i))
    (he : ∀ (i : Nat) (a b : PyData) D acc, ds[i]? = some (PyData.tuple [a, b]) → f i = true → ¬ W.M D → Ev (FB F scope) (W.plus D (.lst acc)) K elt (((wipeE env [j, j2]).set j (.dat a)).set j2 (.dat b)) fun s => ∃ e, s = .dat e ∧ R i e)
    (q : ∀ H' es, Wx W H1 H' → W.I H' → Dn W K H' (.ref D) (.list es) → Paired (fun i e => R i e) ((List.range ds.length).filter f) es → Q (.ref D) H') :
    ∃ Wl : Nat → Nat → Hp → Prop, (∃ m, Wl 0 m (upd H1 D (.lst []))) ∧ ∀ i m H, Wl i m H →
      ((Itl K a).stop i H ∧ Q (.ref D) H) ∨ ((Itl K a).go i H ∧ ∃ Nx : Hp → Prop, (∀ H', Nx H' → ∃ m', m' < m ∧ Wl (i + 1) m' H') ∧ ∀ x H', (Itl K a).yld i H x H' → gTup K 2 (gCons (gName j) (gCons (gName j2) gNil)) x (L2.wipe σ [j, j2]) H' fun σ2 H2 => L2.wipe σ2 [j, j2] = L2.wipe σ [j, j2] ∧ WTs (FB F scope) ifs σ2 H2 fun b H3 =>
        if b = true then WE (FB F scope) elt σ2 H3 fun y H4 => ∃ acc, H4 D = some (.lst acc) ∧ acc.length < sizeLine ∧ Nx (upd H4 D (.lst (acc ++ [y]))) else Nx H3) := by
  have nD : ¬ W.M D := fun m => W.has H1 D i1 m hD
  refine lc_list (K := K) (a := a) (xs := xs) (fun i H' => ∃ acc es, (W.plus D (.lst acc)).I H' ∧ Wx (W.plus D (.lst acc)) H1 H' ∧ DnAll (W.plus D (.lst acc)) K H' acc es ∧ Paired (fun i e => R i e) ((List.range i).filter f) es) ?_ ?_ ?_ ?_
  · exact ⟨[], [], ⟨W.mono _ _ i1 (Xt.new hD), upd_same⟩, fun p o _ h => Xt.new hD p o h, .nil, .nil⟩
  · intro i H' _ ⟨acc, es, _, x, _⟩
    refine SqL.of (x a _ (fun m => ?_) la.2)
    exact m.elim la.1 fun e => ne_of_none la.2 hD e
  · intro i x H' hx ⟨acc, es, ii, xx, dn, pr⟩
    obtain ⟨d, hd, dx⟩ := da.getV hx
    have to1 : ∀ b, H1 b ≠ none → (W.plus D (.lst acc)).M b → W.M b := plus_of hD
    obtain ⟨da, db, rfl⟩ := hpr i d hd
    obtain ⟨pa, ua, ub, rfl, sq2, dna, dnb⟩ := dn_tup2 ((dx.to to1).mono xx)
    · · refine ⟨pa, [ua, ub], rfl, sq2, rfl, ua, [ub], rfl, ub, [], rfl, rfl, ?_⟩
        have sd' : Sd (W.plus D (.lst acc)) K H' (((L2.wipe σ [j, j2]).set j (some ua)).set j2 (some ub)) (((wipeE env [j, j2]).set j (.dat da)).set j2 (.dat db)) :=
          Sd.set dnb.dv j2 (Sd.set dna.dv j (((sd.to to1).wipe [j, j2]).mono xx))
        refine ⟨wipe_set2 hj, ?_⟩
        refine ht i da db D acc hd nD _ H' ii sd' _ fun H3 x3 i3 => ?_
        have lt : acc.length ≤ i := by
          have l1 := dn.length
          have l2 := Paired.length pr
          have l3 := List.length_filter_le f (List.range i)
          rw [List.length_range] at l3
          omega
        have il : i < ds.length := (List.getElem?_eq_some_iff.mp hd).1
        cases hf : f i with
        | true =>
          refine he i da db D acc hd hf nD _ H3 i3 (sd'.mono x3) _ fun y H4 r x4 i4 d4 h4 => ?_
          obtain ⟨e, rfl, hR⟩ := h4
          obtain ⟨u, z, dy⟩ := d4
          cases z
          have up : Wx (W.plus D (.lst acc)) H4 (upd H4 D (.lst (acc ++ [y]))) := fun p o n h => by
            rw [upd_ne fun z => n (Or.inr z)]
            exact h
          refine ⟨acc, i4.2, by omega, acc ++ [y], es ++ [e], ⟨W.loc _ _ i4.1 fun b m => upd_ne fun z => nD (z ▸ m), upd_same⟩, ?_, ?_, ?_⟩
          · intro p o n h
            exact up p o n (x4 p o n (x3 p o n (xx p o n h)))
          · refine DnAll.to (W := W.plus D (.lst acc)) (W' := W.plus D (.lst (acc ++ [y]))) (fun _ _ m => m) (DnAll.mono up ?_)
            exact ((dn.mono x3).mono x4).append (.cons dy .nil)
          · rw [List.range_succ, List.filter_append, List.filter_cons, if_pos hf]
            exact paired_app pr (.cons hR .nil)
        | false =>
          refine ⟨acc, es, i3, fun p o n h => x3 p o n (xx p o n h), dn.mono x3, ?_⟩
          rw [List.range_succ, List.filter_append, List.filter_cons, if_neg (by rw [hf]; exact Bool.false_ne_true)]
          show Paired _ (_ ++ []) es
          rw [List.append_nil]
          exact pr
  · intro H' ⟨acc, es, ii, xx, dn, pr⟩
    rw [da.length] at pr
    refine q H' es (fun p o n h => xx p o (fun m => m.elim n fun z => ?_) h) ii.1 ?_ pr
    · rw [z, hD] at h
      exact nomatch h
    · exact .lst ⟨nD, ii.2⟩ (DnAll.to (W := W.plus D (.lst acc)) (W' := W) (fun _ _ m => Or.inl m) dn)

def nmB (sc scope : Scope) (x : Str) : Bool := locB (relS scope sc) x && (scope.names.lookup x == some .cell || (relS scope sc).names.lookup x == some .local)
def lcB2 (N : List Str) (sc scope : Scope) (x y : Str) (j j2 : Nat) : Bool := blkC N sc scope [(x, j), (y, j2)] && (nmB sc scope x && nmB sc scope y)
theorem lc_nm (fm : Fam P w K mg base N k sc F) {x : Str} {j : Nat} {scope : Scope} {px : Pos} (o : nmB sc scope x = true) (hN : N[j]? = some x) (z : ι) (s : Shared) (H : Hp) (C : Addr) (cl : List (Str × Addr)) (fp : List Addr) : PG ((F z).blk s H scope (compEnvC scope cl C (F z).env) fp) (.Name x px) (gName j) := by
  unfold nmB at o
  rw [Bool.and_eq_true, Bool.or_eq_true] at o
  obtain ⟨o2, o3⟩ := o
  have es : (relabel scope (F z).env) = relS scope sc := by rw [← fm.es z] <;> rfl
  refine pg_name (by show (F z).N.Nodup; rw [fm.nn z]; exact fm.nd) (by show (F z).N[j]? = _; rw [fm.nn z]; exact hN) (loc_of es o2) ?_
  rcases o3 with o3 | o3
  · exact Or.inl o3
  · refine Or.inr ?_
    show (relabel scope (F z).env).names.lookup x = _
    rw [es]
    exact beq_iff_eq.mp o3
theorem lc_split {x y : Str} {j j2 : Nat} {scope : Scope} (o : lcB2 N sc scope x y j j2 = true) : blkC N sc scope [(x, j), (y, j2)] = true ∧ nmB sc scope x = true ∧ nmB sc scope y = true := by
  unfold lcB2 at o
  rw [Bool.and_eq_true, Bool.and_eq_true] at o
  exact o
theorem lc_ok2 (fm : Fam P w K mg base N k sc F) {x y : Str} {j j2 : Nat} {scope : Scope} (o : lcB2 N sc scope x y j j2 = true) (z : ι) : BlkOk (F z).N (F z).env.scope scope [(x, j), (y, j2)] := by
  rw [fm.nn z, fm.es z]
  exact blkOk_by (lc_split o).1
theorem lc_kind2 {x y : Str} {j j2 : Nat} {scope : Scope} (o : lcB2 N sc scope x y j j2 = true) : scope.kind = .function := (blkOk_by (lc_split o).1).kind
theorem lc_gPair (fm : Fam P w K mg base N k sc F) {x y : Str} {j j2 kk : Nat} {scope : Scope} {px py tpos : Pos} (o : lcB2 N sc scope x y j j2 = true) (hN : N[j]? = some x) (hN2 : N[j2]? = some y) (z : ι) (s : Shared) (H : Hp) (C : Addr) (cl : List (Str × Addr)) (fp : List Addr) :
    PG ((F z).blk s H scope (compEnvC scope cl C (F z).env) fp) (.Tuple [.Name x px, .Name y py] kk tpos) (gTup K 2 (gCons (gName j) (gCons (gName j2) gNil))) := by
  have := pg_tup (k := kk) (pos := tpos) ((fm.blk scope (lc_kind2 o)).ca (z, s, H, C, cl, fp)) (pgs_cons (lc_nm (px := px) fm (lc_split o).2.1 hN z s H C cl fp) (pgs_cons (lc_nm (px := py) fm (lc_split o).2.2 hN2 z s H C cl fp) pgs_nil)) (n := 2)
  rwa [show ((F z).blk s H scope (compEnvC scope cl C (F z).env) fp).K = K from fm.kk z] at this
/-- the reading of [elt for x, y in l if ..] -/
theorem lc_read2 {elt iter : Expr} {ifs : List Expr} {scope : Scope} {j j2 : Nat} {ds : List PyData} {f : Nat → Bool} {R : Nat → PyData → Prop} (hi : E1 F W K iter env (.dat (.list ds))) (hz : ds.length ≤ sizeLine)
    (hj : j ≠ j2) (hpr : ∀ (i : Nat) (d : PyData), ds[i]? = some d → ∃ a b, d = PyData.tuple [a, b]) (ht : ∀ (i : Nat) (a b : PyData) D acc, ds[i]? = some (PyData.tuple [a, b]) → ¬ W.M D → EvIf (FB F scope) (W.plus D (.lst acc)) K ifs (((wipeE env [j, j2]).set j (.dat a)).set j2 (.dat b)) (f i))
    (he : ∀ (i : Nat) (a b : PyData) D acc, ds[i]? = some (PyData.tuple [a, b]) → f i = true → ¬ W.M D → Ev (FB F scope) (W.plus D (.lst acc)) K elt (((wipeE env [j, j2]).set j (.dat a)).set j2 (.dat b)) fun s => ∃ e, s = .dat e ∧ R i e)
    (σ : L2.St) (H : Hp) (ii : W.I H) (sd : Sd W K H σ env) (Q : VK) (q : ∀ v H' es, Wx W H H' → W.I H' → Dn W K H' v (.list es) → Paired (fun i e => R i e) ((List.range ds.length).filter f) es → Q v H') :
    tLc (iList K (WE F iter)) (gTup K 2 (gCons (gName j) (gCons (gName j2) gNil))) (WTs (FB F scope) ifs) (WE (FB F scope) elt) [j, j2] σ H Q := by
  refine hi σ H ii sd _ fun v H1 r x1 i1 d1 h1 => ?_
  subst h1
  obtain ⟨u, z, n1⟩ := d1
  cases z
  cases n1 with
  | lst la da =>
    refine ⟨_, rfl, ⟨_, la.sq⟩, fun D hD => ?_⟩
    exact lc_turns2 i1 (sd.mono x1) la da hD hz hj hpr ht he fun H' es x' i' dn pr => q _ H' es (x1.trans x') i' dn pr
theorem ev_lc2 (fm : Fam P w K mg base N k sc F) {x y : Str} {px py tpos pos : Pos} {kk : Nat} {elt iter : Expr} {ifs : List Expr} {scope : Scope} {ds : List PyData} {f : Nat → Bool} {R : Nat → PyData → Prop} (j j2 : Nat) (hN : N[j]? = some x) (hN2 : N[j2]? = some y) (o : lcB2 N sc scope x y j j2 = true) (hi : E1 F W K iter env (.dat (.list ds)))
    (hj : j ≠ j2) (hpr : ∀ (i : Nat) (d : PyData), ds[i]? = some d → ∃ a b, d = PyData.tuple [a, b]) (ht : ∀ (i : Nat) (a b : PyData) D acc, ds[i]? = some (PyData.tuple [a, b]) → ¬ W.M D → Fam P w K mg base N k (relS scope sc) (FB F scope) → EvIf (FB F scope) (W.plus D (.lst acc)) K ifs (((wipeE env [j, j2]).set j (.dat a)).set j2 (.dat b)) (f i))
    (he : ∀ (i : Nat) (a b : PyData) D acc, ds[i]? = some (PyData.tuple [a, b]) → f i = true → ¬ W.M D → Fam P w K mg base N k (relS scope sc) (FB F scope) → Ev (FB F scope) (W.plus D (.lst acc)) K elt (((wipeE env [j, j2]).set j (.dat a)).set j2 (.dat b)) fun s => ∃ e, s = .dat e ∧ R i e)
    (hz : ds.length ≤ sizeLine) (hf : ∀ i x, foldedSetIterable iter (F i).env x = pure x := by intro _ _; rfl) :
    Ev F W K (.ListComp elt [⟨.Tuple [.Name x px, .Name y py] kk tpos, iter, ifs, 0⟩] scope pos) env fun s => ∃ es, s = .dat (.list es) ∧ Paired (fun i e => R i e) ((List.range ds.length).filter f) es := by
  intro σ H ii sd Q q
  refine ⟨_, fun z => ?_, lc_read2 hi hz hj hpr (fun i u v D acc a b => ht i u v D acc a b (fm.blk scope (lc_kind2 o))) (fun i u v D acc a b c => he i u v D acc a b c (fm.blk scope (lc_kind2 o))) σ H ii sd Q fun v H' es x' i' dn pr => q v H' _ x' i' dn.dv ⟨es, rfl, pr⟩⟩
  have h1 := pi_list (tg := .Tuple [.Name x px, .Name y py] kk tpos) (we_pe (F := F) (e := iter) z)
  rw [fm.kk z] at h1
  exact pe_lc (own := [(x, j), (y, j2)]) (fm.ca z) (by rw [fm.nn z]; exact fm.nd) h1 (lc_ok2 fm o z) (fun s H C cl fp => lc_gPair fm o hN hN2 z s H C cl fp) (fun s H C cl fp => wts_pts (F := FB F scope) (z, s, H, C, cl, fp)) (fun s H C cl fp => we_pe (F := FB F scope) (z, s, H, C, cl, fp)) (hf z)
end
end Cr

set_option Elab.async false
set_option linter.all false
set_option maxRecDepth 100000
set_option maxHeartbeats 400000
namespace Cr
open PySem PySem.Spec PyProof.Rows L2

/-! ## calls by keywords only, of defs that may raise -/
section
variable {X : Cx} {k : Nat} {f : Addr} {fd : FuncData} {ps ks : List Str} {sp : Sp} {x : Str} {p pos : Pos} {kws : List Keyword} {tk : TA} {wi : L2.WX} {g : List Value → List Value → List Value} {gV : List V → List V → List V}
theorem pe_callXK (F : FnX X.prog X.w X.K X.mg X.base k f fd ps sp) (tw : Takes X wi) (hg : X.A.guards = some []) (hr : Room k X.A) (gl : Gl X x) (hm : X.mg x = some (.ref f)) (hk : PySem.W.keepIn X.K (.ref f) = true) (hb : KBn X.K fd ps 0 ks g gV)
    (hkw : PK X kws tk) (hdb : (x == ("__debug__" : Str)) = false := by decide) (hall : (backToKw pos (keywordEach kws X.env)).all (·.1.isSome) = true := by rfl) (hks : (backToKw pos (keywordEach kws X.env)).filterMap (·.1) = ks := by rfl)
    (hpl : ((backTo pos (starEach [] X.env)).any (·.1) || (backToKw pos (keywordEach kws X.env)).any (·.1.isNone)) = false := by rfl) :
    PE X (.Call (.Name x p) [] kws pos) (fun σ H Q => tk σ H fun zs H1 => zs.length = ks.length ∧ sp (gV [] zs) H1 Q (fun cls d H2 => wi cls d σ H2)) := by
  constructor
  intro pins s σ H Q I h
  apply wpAny_Call_Name_kw (ld_glob I gl hm ?_ hdb)
  refine PySem.W.callWith_KW0 (h₀ := X.base) I.ok.mod.kin hk hall (thn (hkw.run pos pins s σ H _ I h) fun ws s2 ⟨zs, H2, I2, rz, l1, q2⟩ => ⟨I2.kIn, ?_⟩) hpl
  rw [hks]
  apply wpAny_call
  refine codeAny_mono (F.run X.A X.stack s2 H2 ⟨[], ks.zip ws⟩ (g [] ws) (gV [] zs) Q _ hg hr I2.env0 (hb.to s2 [] ws I2.kIn rfl (rz.length.symm.trans l1)) (hb.rel .nil rz) q2) ?_
  intro res s' hq
  match res, hq with
  | .ok (.ret u), hq => exact I2.after hq
  | .error u, hq => exact passAt tw σ pins H2 s2 u s' I2 hq
end
structure OwnM (P : Program) (w : World) (K : PySem.W.Frag) (mg : Str → Option Value) (base : Heap) (x : Str) (j : Nat) (ps : List Str) (sp : Sp) (ks : List Str) (gV : List V → List V → List V) : Prop where
  ex : ∃ (f : Addr) (fd : FuncData) (g : List Value → List Value → List Value), mg x = some (.ref f) ∧ PySem.W.keepIn K (.ref f) = true ∧ KBn K fd ps 0 ks g gV ∧ FnX P w K mg base j f fd ps sp
section
variable {ι : Type} {F : ι → Cx} {P : Program} {w : World} {K : PySem.W.Frag} {mg : Str → Option Value} {base : Heap} {N : List Str} {k : Nat} {sc : Scope} {W : Wd} {env : List Sl} {wi : L2.WX} {EX : Value → XD → Prop} {XE : List Sl → Prop}
def WKs (F : ι → Cx) : List Keyword → TA
  | [] => tNil
  | ⟨_, e, _⟩ :: r => tCons (WE F e) (WKs F r)
theorem wk_pk (z : ι) : ∀ {kws : List Keyword}, PK (F z) kws (WKs F kws)
  | [] => pk_nil
  | ⟨_, _, _⟩ :: _ => pk_cons (we_pe z) (wk_pk z)
def EvK (F : ι → Cx) (W : Wd) (K : PySem.W.Frag) (kws : List Keyword) (env : List Sl) (ds : List PyData) : Prop := ∀ (σ : L2.St) (H : Hp), W.I H → Sd W K H σ env → ∀ Q : List V → Hp → Prop, (∀ vs H', Wx W H H' → W.I H' → DnAll W K H' vs ds → Q vs H') → WKs F kws σ H Q
theorem k_nil : EvK F W K [] env [] := fun σ H i sd Q q => q [] H (Wx.refl W H) i .nil
theorem k_cons {nm : Option Str} {e : Expr} {kp : Pos} {kws : List Keyword} {d : PyData} {ds : List PyData} (h : E1 F W K e env (.dat d)) (hs : EvK F W K kws env ds) : EvK F W K (⟨nm, e, kp⟩ :: kws) env (d :: ds) := by
  intro σ H i sd Q q
  refine h σ H i sd _ fun v H1 r x1 i1 d1 h1 => ?_
  subst h1
  obtain ⟨u, z, dn⟩ := d1
  cases z
  exact hs σ H1 i1 (sd.mono x1) _ fun vs H2 x2 i2 d2 => q _ H2 (x1.trans x2) i2 (.cons (dn.mono x2) d2)
/-- f(k = v, ..) that does not raise -/
theorem ev_callKw (fm : Fam P w K mg base N k sc F) {x : Str} {j : Nat} {ps ks : List Str} {gV : List V → List V → List V} {Pre : List PyData → Prop} {Fn : List PyData → PyData → Prop} {Ex : List PyData → Value → XD → Prop} {p pos : Pos} {kws : List Keyword} {ds ds' : List PyData} (o : OwnM P w K mg base x j ps (spX K Pre Fn Ex) ks gV) (hj : j ≤ k) (ha : EvK F W K kws env ds)
    (hl : ds.length = ks.length) (hd : ∀ H vs, DnAll W K H vs ds → DnAll W K H (gV [] vs) ds') (hp : Pre ds') (hn : ∀ cls fs, ¬ Ex ds' cls fs) (hg : glB sc x = true := by decide +kernel) (hdb : (x == ("__debug__" : Str)) = false := by decide)
    (hall : ∀ i, (backToKw pos (keywordEach kws (F i).env)).all (·.1.isSome) = true := by intro _; rfl) (hks : ∀ i, (backToKw pos (keywordEach kws (F i).env)).filterMap (·.1) = ks := by intro _; rfl)
    (hpl : ∀ i, ((backTo pos (starEach [] (F i).env)).any (·.1) || (backToKw pos (keywordEach kws (F i).env)).any (·.1.isNone)) = false := by intro _; rfl) :
    Ev F W K (.Call (.Name x p) [] kws pos) env fun s => ∃ r, s = .dat r ∧ Fn ds' r := by
  obtain ⟨f, fd, g, hm, hk, hb, G⟩ := o.ex
  intro σ H i sd Q q
  refine ⟨fun σ H Q => WKs F kws σ H fun zs H1 => zs.length = ks.length ∧ spX K Pre Fn Ex (gV [] zs) H1 Q (fun _ _ _ => False), fun z => ?_, ?_⟩
  · have GG : FnX (F z).prog (F z).w (F z).K (F z).mg (F z).base j f fd ps (spX K Pre Fn Ex) := by rw [fm.pr z, fm.wo z, fm.kk z, fm.mg z, fm.ba z]; exact G
    exact pe_callXK (wi := fun _ _ _ _ => False) GG takes_none5 (fm.gu z) ((fm.ro z).mono hj) (gl_of (fm.es z) hg) (by rw [fm.mg z]; exact hm) (by rw [fm.kk z]; exact hk) (by rw [fm.kk z]; exact hb) (wk_pk z) hdb (hall z) (hks z) (hpl z)
  · refine ha σ H i sd _ fun vs H1 x1 i1 d1 => ⟨d1.length.trans hl, W, ds', i1, hd H1 vs d1, hp, fun r v H' hr x2 dn => q _ _ _ (x1.trans (x2.wx W)) (W.mono _ _ i1 x2) dn.dv ⟨r, rfl, hr⟩, fun cls fs d H' he => absurd he (hn _ _)⟩
/-- y = f(k = v, ..) that may raise -/
theorem bde_setM (fm : Fam P w K mg base N k sc F) (tk : ∀ i, Takes (F i) wi) {x y : Str} {j : Nat} {ps ks : List Str} {gV : List V → List V → List V} {Pre : List PyData → Prop} {Fn : List PyData → PyData → Prop} {Ex : List PyData → Value → XD → Prop} {p py pos spos : Pos} {kws : List Keyword} {ds ds' : List PyData} {rest : List Stmt} {Po : Post} (o : OwnM P w K mg base x j ps (spX K Pre Fn Ex) ks gV) (hj : j ≤ k)
    (n : Nat) (hN : N[n]? = some y) (ha : EvK F W K kws env ds) (hl : ds.length = ks.length) (hd : ∀ H vs, DnAll W K H vs ds → DnAll W K H (gV [] vs) ds') (hp : Pre ds')
    (hn : ∀ r, Fn ds' r → BdE F W K wi EX XE rest (env.set n (.dat r)) Po) (hx : ∀ cls fs, Ex ds' cls fs → EX cls fs ∧ XE env) (hg : glB sc x = true := by decide +kernel) (hdb : (x == ("__debug__" : Str)) = false := by decide)
    (hall : ∀ i, (backToKw pos (keywordEach kws (F i).env)).all (·.1.isSome) = true := by intro _; rfl) (hks : ∀ i, (backToKw pos (keywordEach kws (F i).env)).filterMap (·.1) = ks := by intro _; rfl)
    (hpl : ∀ i, ((backTo pos (starEach [] (F i).env)).any (·.1) || (backToKw pos (keywordEach kws (F i).env)).any (·.1.isNone)) = false := by intro _; rfl)
    (hx2 : locB sc y = true := by decide +kernel) (hs : ∀ i, swapsWith (.Call (.Name x p) [] kws pos) (some (.Name y py)) spos.line (F i).env = pure false := by intro _; rfl) (hl2 : lclB sc y = true := by decide +kernel) : BdE F W K wi EX XE (.Assign [.Name y py] (.Call (.Name x p) [] kws pos) spos :: rest) env Po := by
  obtain ⟨f, fd, g, hm, hk, hb, G⟩ := o.ex
  intro σ H D i sd gd hw
  refine ⟨tSeq (tAsg (fun σ H Q => WKs F kws σ H fun zs H1 => zs.length = ks.length ∧ spX K Pre Fn Ex (gV [] zs) H1 Q (fun cls d H2 => wi cls d σ H2)) (gName n)) (WS F rest), fun z => pss_cons (ps_set (by rw [fm.nn z]; exact fm.nd) (by rw [fm.nn z]; exact hN) (loc_of (fm.es z) hx2) ?_ (hs z) (Or.inr (lcl_of (fm.es z) hl2))) (ws_ps z), ?_⟩
  · have GG : FnX (F z).prog (F z).w (F z).K (F z).mg (F z).base j f fd ps (spX K Pre Fn Ex) := by rw [fm.pr z, fm.wo z, fm.kk z, fm.mg z, fm.ba z]; exact G
    exact pe_callXK GG (tk z) (fm.gu z) ((fm.ro z).mono hj) (gl_of (fm.es z) hg) (by rw [fm.mg z]; exact hm) (by rw [fm.kk z]; exact hk) (by rw [fm.kk z]; exact hb) (wk_pk z) hdb (hall z) (hks z) (hpl z)
  · refine ha σ H i sd _ fun vs H1 x1 i1 d1 => ⟨d1.length.trans hl, W, ds', i1, hd H1 vs d1, hp, fun r v H' hr x2 dn => ?_, fun cls fs d H' he hi x2 => ?_⟩
    · have yy : Wx W H H' := x1.trans (x2.wx W)
      exact hn r hr _ H' D (W.mono _ _ i1 x2) (Sd.set dn.dv n (sd.mono yy)) (gd.mono yy) fun cls fs d σ' H2 env' a b c y2 => hw cls fs d σ' H2 env' a b c (yy.trans y2)
    · have yy : Wx W H H' := x1.trans (x2.wx W)
      exact hw cls fs d σ H' env (hx cls fs he).1 (hx cls fs he).2 hi yy (W.mono _ _ i1 x2) (sd.mono yy)
end
end Cr

set_option Elab.async false
set_option linter.all false
set_option maxRecDepth 100000
set_option maxHeartbeats 400000
namespace Cr
open PySem PySem.Spec PyProof.Rows L2
def rEqNil (K : PySem.W.Frag) : R2 := fun x y H Q => ∃ p xs q, x = .ref p ∧ y = .ref q ∧ SqL K H p xs ∧ SqL K H q [] ∧ Q (.bl xs.isEmpty) H
theorem op_eqNil {X : Cx} (hu : X.A.units + 64 < cLine) : OpR X (compareOp .Eq) (rEqNil X.K) := by
  intro pins s σ H x y v u Q I rx ry h
  obtain ⟨p, xs, q, ex, ey, hp, hq, h⟩ := h
  subst ex ey
  cases rx
  cases ry
  obtain ⟨its, rv, p1, _⟩ := I.list hp
  obtain ⟨its2, rv2, p2, _⟩ := I.list hq
  have hu' : X.A.units < cLine := by omega
  cases rv2
  cases rv with
  | nil => exact SeqAt.RcAt.lists (e := fun _ => true) p1.isList p2.isList rfl hu' (fun j h1 _ => absurd h1 (Nat.not_lt_zero _)) _ _ _ _ ⟨.bl _, H, I, rfl, h⟩
  | cons r rr => exact SeqAt.eq_list_lengthsAt p1.isList p2.isList (by simp) hu' ⟨.bl _, H, I, rfl, h⟩
section
variable {ι : Type} {F : ι → Cx} {P : Program} {w : World} {K : PySem.W.Frag} {mg : Str → Option Value} {base : Heap} {N : List Str} {k : Nat} {sc : Scope} {W : Wd} {env : List Sl} {wi : L2.WX} {EX : Value → XD → Prop} {XE : List Sl → Prop}
/-- l == [], whatever stands in l -/
theorem b_eqNil (fm : Fam P w K mg base N k sc F) {ds : List PyData} : B1 F W K (compareOp .Eq) (.list ds) (.list []) (.bool ds.isEmpty) := by
  intro H vx vy ii dx dy Q q
  cases dx with
  | @lst pa xs _ la da =>
    cases dy with
    | @lst pb ys _ lb db =>
      cases db
      refine ⟨rEqNil K, fun z => by have := op_eqNil (X := F z) (fm.ro z).units; rwa [fm.kk z] at this, pa, xs, pb, rfl, rfl, la.sq, lb.sq, ?_⟩
      have e : xs.isEmpty = ds.isEmpty := by cases da <;> rfl
      rw [e]
      exact q _ H _ (Wx.refl W H) ii (Dn.dv (.bl _)) rfl
theorem bde_set (fm : Fam P w K mg base N k sc F) {x : Str} {e : Expr} {pos' pos : Pos} {rest : List Stmt} {R : Sl → Prop} {Po : Post} (j : Nat) (hN : N[j]? = some x) (he : Ev F W K e env R) (hr : ∀ r, R r → BdE F W K wi EX XE rest (env.set j r) Po)
    (hx : locB sc x = true := by decide +kernel) (hs : ∀ i, swapsWith e (some (.Name x pos')) pos.line (F i).env = pure false := by intro _; rfl)
    (hf : ∀ i, (F i).fn x = true ∨ (F i).env.scope.names.lookup x = some .local := by intro _; first | exact Or.inl rfl | exact Or.inr rfl) : BdE F W K wi EX XE (.Assign [.Name x pos'] e pos :: rest) env Po := by
  intro σ H D i sd g hw
  refine ⟨tSeq (tAsg (WE F e) (gName j)) (WS F rest), fun z => pss_cons (ps_set (by rw [fm.nn z]; exact fm.nd) (by rw [fm.nn z]; exact hN) (loc_of (fm.es z) hx) (we_pe z) (hs z) (hf z)) (ws_ps z), ?_⟩
  refine he σ H i sd _ fun v H1 r x1 i1 d1 h1 => ?_
  exact hr r h1 _ _ _ i1 (Sd.set d1 j (sd.mono x1)) (g.mono x1) fun cls fs d σ' H2 env' a b c y => hw cls fs d σ' H2 env' a b c (x1.trans y)
end
end Cr

set_option Elab.async false
set_option linter.all false
set_option maxRecDepth 100000
set_option maxHeartbeats 400000
namespace Cr
open PySem PySem.Spec PyProof.Rows L2
section
variable {ι : Type} {F : ι → Cx} {P : Program} {w : World} {K : PySem.W.Frag} {mg : Str → Option Value} {base : Heap} {N : List Str} {k : Nat} {sc : Scope} {W : Wd} {env : List Sl}
/-! ## comprehensions over zip(a, b), two lists or two tuples -/
theorem lc_turnsZ {J : It} {G : Hp → Prop} {elt : Expr} {ifs : List Expr} {scope : Scope} {j j2 n : Nat} {ds ds2 : List PyData} {xs ys : List V} {D : Addr} {H1 : Hp} {σ : L2.St} {f : Nat → Bool} {R : Nat → PyData → Prop} {Q : VK} (i1 : W.I H1) (sd : Sd W K H1 σ env) (da : DnAll W K H1 xs ds) (db : DnAll W K H1 ys ds2) (hD : H1 D = none) (hz : n ≤ sizeLine)
    (wk : Walk J n G (YPair (fun i => xs[i]?) (fun i => ys[i]?))) (keep : ∀ H', Wx W H1 H' → G H')
    (hj : j ≠ j2) (ht : ∀ (i : Nat) (a b : PyData) D acc, ds[i]? = some a → ds2[i]? = some b → ¬ W.M D → EvIf (FB F scope) (W.plus D (.lst acc)) K ifs (((wipeE env [j, j2]).set j (.dat a)).set j2 (.dat b)) (f i))
    (he : ∀ (i : Nat) (a b : PyData) D acc, ds[i]? = some a → ds2[i]? = some b → f i = true → ¬ W.M D → Ev (FB F scope) (W.plus D (.lst acc)) K elt (((wipeE env [j, j2]).set j (.dat a)).set j2 (.dat b)) fun s => ∃ e, s = .dat e ∧ R i e)
    (q : ∀ H' es, Wx W H1 H' → W.I H' → Dn W K H' (.ref D) (.list es) → Paired (fun i e => R i e) ((List.range n).filter f) es → Q (.ref D) H') :
    ∃ Wl : Nat → Nat → Hp → Prop, (∃ m, Wl 0 m (upd H1 D (.lst []))) ∧ ∀ i m H, Wl i m H →
      (J.stop i H ∧ Q (.ref D) H) ∨ (J.go i H ∧ ∃ Nx : Hp → Prop, (∀ H', Nx H' → ∃ m', m' < m ∧ Wl (i + 1) m' H') ∧ ∀ x H', J.yld i H x H' → gTup K 2 (gCons (gName j) (gCons (gName j2) gNil)) x (L2.wipe σ [j, j2]) H' fun σ2 H2 => L2.wipe σ2 [j, j2] = L2.wipe σ [j, j2] ∧ WTs (FB F scope) ifs σ2 H2 fun b H3 =>
        if b = true then WE (FB F scope) elt σ2 H3 fun y H4 => ∃ acc, H4 D = some (.lst acc) ∧ acc.length < sizeLine ∧ Nx (upd H4 D (.lst (acc ++ [y]))) else Nx H3) := by
  have nD : ¬ W.M D := fun m => W.has H1 D i1 m hD
  refine lc_it wk (fun i H' => ∃ acc es, (W.plus D (.lst acc)).I H' ∧ Wx (W.plus D (.lst acc)) H1 H' ∧ DnAll (W.plus D (.lst acc)) K H' acc es ∧ Paired (fun i e => R i e) ((List.range i).filter f) es) ?_ ?_ ?_ ?_
  · exact ⟨[], [], ⟨W.mono _ _ i1 (Xt.new hD), upd_same⟩, fun p o _ h => Xt.new hD p o h, .nil, .nil⟩
  · intro i H' _ ⟨acc, es, _, x, _⟩
    exact keep H' fun p o n h => x p o (fun m => m.elim n fun e => ne_of_none h hD e) h
  · rintro i x H0 H' il ⟨acc, es, ii0, xx0, dn0, pr⟩ ⟨T, ua, ub, rfl, hT, rfl, hx, hy⟩
    obtain ⟨d1, hd1, dx1⟩ := da.getV hx
    obtain ⟨d2, hd2, dx2⟩ := db.getV hy
    have to1 : ∀ b, H1 b ≠ none → (W.plus D (.lst acc)).M b → W.M b := plus_of hD
    obtain ⟨xT, ii, dT⟩ := new_tup (W := W.plus D (.lst acc)) (K := K) (vs := [ua, ub]) (ds := [d1, d2]) ii0 hT (.cons ((dx1.to to1).mono xx0) (.cons ((dx2.to to1).mono xx0) .nil))
    have xx := fun p o n h => xT p o n (xx0 p o n h)
    have dn := dn0.mono xT
    obtain ⟨pa, ua, ub, eT, sq2, dna, dnb⟩ := dn_tup2 dT
    cases eT
    · · refine ⟨_, [ua, ub], rfl, sq2, rfl, ua, [ub], rfl, ub, [], rfl, rfl, ?_⟩
        have sd' : Sd (W.plus D (.lst acc)) K _ (((L2.wipe σ [j, j2]).set j (some ua)).set j2 (some ub)) (((wipeE env [j, j2]).set j (.dat d1)).set j2 (.dat d2)) :=
          Sd.set dnb.dv j2 (Sd.set dna.dv j (((sd.to to1).wipe [j, j2]).mono xx))
        refine ⟨wipe_set2 hj, ?_⟩
        refine ht i d1 d2 D acc hd1 hd2 nD _ _ ii sd' _ fun H3 x3 i3 => ?_
        have lt : acc.length ≤ i := by
          have l1 := dn.length
          have l2 := Paired.length pr
          have l3 := List.length_filter_le f (List.range i)
          rw [List.length_range] at l3
          omega
        cases hf : f i with
        | true =>
          refine he i d1 d2 D acc hd1 hd2 hf nD _ H3 i3 (sd'.mono x3) _ fun y H4 r x4 i4 d4 h4 => ?_
          obtain ⟨e, rfl, hR⟩ := h4
          obtain ⟨u, z, dy⟩ := d4
          cases z
          have up : Wx (W.plus D (.lst acc)) H4 (upd H4 D (.lst (acc ++ [y]))) := fun p o n h => by
            rw [upd_ne fun z => n (Or.inr z)]
            exact h
          refine ⟨acc, i4.2, by omega, acc ++ [y], es ++ [e], ⟨W.loc _ _ i4.1 fun b m => upd_ne fun z => nD (z ▸ m), upd_same⟩, ?_, ?_, ?_⟩
          · intro p o n h
            exact up p o n (x4 p o n (x3 p o n (xx p o n h)))
          · refine DnAll.to (W := W.plus D (.lst acc)) (W' := W.plus D (.lst (acc ++ [y]))) (fun _ _ m => m) (DnAll.mono up ?_)
            exact ((dn.mono x3).mono x4).append (.cons dy .nil)
          · rw [List.range_succ, List.filter_append, List.filter_cons, if_pos hf]
            exact paired_app pr (.cons hR .nil)
        | false =>
          refine ⟨acc, es, i3, fun p o n h => x3 p o n (xx p o n h), dn.mono x3, ?_⟩
          rw [List.range_succ, List.filter_append, List.filter_cons, if_neg (by rw [hf]; exact Bool.false_ne_true)]
          show Paired _ (_ ++ []) es
          rw [List.append_nil]
          exact pr
  · intro H' ⟨acc, es, ii, xx, dn, pr⟩
    refine q H' es (fun p o n h => xx p o (fun m => m.elim n fun z => ?_) h) ii.1 ?_ pr
    · rw [z, hD] at h
      exact nomatch h
    · exact .lst ⟨nD, ii.2⟩ (DnAll.to (W := W.plus D (.lst acc)) (W' := W) (fun _ _ m => Or.inl m) dn)
theorem walk_zipT {a b : Addr} {xs ys : List V} {n : Nat} (hn : n = min xs.length ys.length) : Walk (RZ.ItzT K a b) n (fun H => SqT K H a xs ∧ SqT K H b ys) (YPair (fun i => xs[i]?) (fun i => ys[i]?)) := by
  subst hn
  refine ⟨fun i _ hi q => ?_, fun _ q => ⟨xs, ys, q.1, q.2, by omega⟩, fun i H v H' _ q y => ?_⟩
  · have h1 : i < xs.length := by omega
    have h2 : i < ys.length := by omega
    exact ⟨xs, ys, xs[i], ys[i], q.1, q.2, by simp [h1], by simp [h2]⟩
  · obtain ⟨T, x, z, h1, h2, h3, h4, h5⟩ := y
    exact ⟨T, x, z, h1, h2, h3, h4 xs q.1, h5 ys q.2⟩
/-- [elt for x, y in zip(a, b) if ..] -/
theorem ev_lcZ (fm : Fam P w K mg base N k sc F) {x y : Str} {px py tpos pos p cpos : Pos} {kk : Nat} {elt e1 e2 : Expr} {ifs : List Expr} {scope : Scope} {ds ds2 : List PyData} {u v : PyData} {f : Nat → Bool} {R : Nat → PyData → Prop} (j j2 : Nat) (hN : N[j]? = some x) (hN2 : N[j2]? = some y) (o : lcB2 N sc scope x y j j2 = true) (ha : A1 F W K [e1, e2] env [u, v])
    (huv : (u = .list ds ∧ v = .list ds2) ∨ (u = .tuple ds ∧ v = .tuple ds2)) (mz : mg "zip" = none) (hj : j ≠ j2)
    (ht : ∀ (i : Nat) (a b : PyData) D acc, ds[i]? = some a → ds2[i]? = some b → ¬ W.M D → Fam P w K mg base N k (relS scope sc) (FB F scope) → EvIf (FB F scope) (W.plus D (.lst acc)) K ifs (((wipeE env [j, j2]).set j (.dat a)).set j2 (.dat b)) (f i))
    (he : ∀ (i : Nat) (a b : PyData) D acc, ds[i]? = some a → ds2[i]? = some b → f i = true → ¬ W.M D → Fam P w K mg base N k (relS scope sc) (FB F scope) → Ev (FB F scope) (W.plus D (.lst acc)) K elt (((wipeE env [j, j2]).set j (.dat a)).set j2 (.dat b)) fun s => ∃ e, s = .dat e ∧ R i e)
    (hz : min ds.length ds2.length ≤ sizeLine) (gz : glB sc "zip" = true := by decide +kernel) (hs : ∀ i, starEach [e1, e2] (F i).env = (false, eval e1 (F i).env) :: starEach [e2] (F i).env := by intro _; rfl) (hpl : ∀ i, (backTo cpos (starEach [e2] (F i).env)).any (·.1) = false := by intro _; rfl)
    (hf : ∀ i x, foldedSetIterable (.Call (.Name "zip" p) [e1, e2] [] cpos) (F i).env x = pure x := by intro _ _; rfl) :
    Ev F W K (.ListComp elt [⟨.Tuple [.Name x px, .Name y py] kk tpos, .Call (.Name "zip" p) [e1, e2] [] cpos, ifs, 0⟩] scope pos) env fun s => ∃ es, s = .dat (.list es) ∧ Paired (fun i e => R i e) ((List.range (min ds.length ds2.length)).filter f) es := by
  intro σ H ii sd Q q
  refine ⟨tLc (RZ.iZipA K (WA F [e1, e2])) (gTup K 2 (gCons (gName j) (gCons (gName j2) gNil))) (WTs (FB F scope) ifs) (WE (FB F scope) elt) [j, j2], fun z => ?_, ?_⟩
  · have h1 := RZ.pi_zipA (X := F z) (elts := [.Name x px, .Name y py]) (kk := kk) (tpos := tpos) (p := p) (pos := cpos) (gl_of (fm.es z) gz) (by rw [fm.mg z]; exact mz) (wa_pa (F := F) (es := [e1, e2]) z) (hs z) (hpl z)
    rw [fm.kk z] at h1
    exact pe_lc (own := [(x, j), (y, j2)]) (fm.ca z) (by rw [fm.nn z]; exact fm.nd) h1 (lc_ok2 fm o z) (fun s H C cl fp => lc_gPair fm o hN hN2 z s H C cl fp) (fun s H C cl fp => wts_pts (F := FB F scope) (z, s, H, C, cl, fp)) (fun s H C cl fp => we_pe (F := FB F scope) (z, s, H, C, cl, fp)) (hf z)
  · refine ha σ H ii sd _ fun vs H1 rs x1 i1 d1 h1 => ?_
    subst h1
    have dn := dn_of_sd d1
    cases dn with
    | cons a t =>
      cases t with
      | cons b t =>
        cases t
        rcases huv with ⟨rfl, rfl⟩ | ⟨rfl, rfl⟩
        · cases a with
          | @lst pa xs _ la da =>
            cases b with
            | @lst pb ys _ lb db =>
              refine ⟨pa, pb, xs, ys, rfl, Or.inl ⟨la.sq, lb.sq, fun D hD => ?_⟩⟩
              exact lc_turnsZ i1 (sd.mono x1) da db hD hz (walk_zip (by rw [da.length, db.length])) (fun H' y => ⟨(la.mono y).sq, (lb.mono y).sq⟩) hj (fun i a b D acc h1 h2 nD => ht i a b D acc h1 h2 nD (fm.blk scope (lc_kind2 o))) (fun i a b D acc h1 h2 h3 nD => he i a b D acc h1 h2 h3 nD (fm.blk scope (lc_kind2 o))) fun H' es x' i' dn pr => q _ _ _ (x1.trans x') i' dn.dv ⟨es, rfl, pr⟩
        · cases a with
          | @tup pa xs _ la da =>
            cases b with
            | @tup pb ys _ lb db =>
              refine ⟨pa, pb, xs, ys, rfl, Or.inr ⟨la.sq, lb.sq, fun D hD => ?_⟩⟩
              exact lc_turnsZ i1 (sd.mono x1) da db hD hz (walk_zipT (by rw [da.length, db.length])) (fun H' y => ⟨(TA'.mono y la).sq, (TA'.mono y lb).sq⟩) hj (fun i a b D acc h1 h2 nD => ht i a b D acc h1 h2 nD (fm.blk scope (lc_kind2 o))) (fun i a b D acc h1 h2 h3 nD => he i a b D acc h1 h2 h3 nD (fm.blk scope (lc_kind2 o))) fun H' es x' i' dn pr => q _ _ _ (x1.trans x') i' dn.dv ⟨es, rfl, pr⟩

/-! ## all(l) -/
theorem dn_bools {H : Hp} : ∀ {bs : List Bool} {vs : List V}, DnAll W K H vs (bs.map .bool) → vs = bs.map V.bl
  | [], _, h => by cases h; rfl
  | b :: bs, _, h => by
    cases h with
    | cons a t =>
      cases a
      rw [dn_bools t]
      rfl
theorem c_all (fm : Fam P w K mg base N k sc F) {bs : List Bool} : C1 F W K (.builtin "all") [.list (bs.map .bool)] (.bool (bs.all id)) := by
  intro H vs ii dn Q q
  cases dn with
  | cons a t =>
    cases t
    cases a with
    | lst a r =>
      have e := dn_bools r
      subst e
      exact ⟨rAll K, fun z => by have := cr_all (X := F z) (fm.ca z); rwa [fm.kk z] at this, _, bs, rfl, a.sq, q _ H _ (Wx.refl W H) ii (Dn.dv (.bl _)) rfl⟩
theorem e_all (fm : Fam P w K mg base N k sc F) {e : Expr} {p pos : Pos} {bs : List Bool} (ha : E1 F W K e env (.dat (.list (bs.map .bool)))) (hm : mg "all" = none) (hg : glB sc "all" = true := by decide +kernel)
    (st : ∀ i, starEach (e :: []) (F i).env = (false, eval e (F i).env) :: starEach [] (F i).env := by intro _; rfl) : E1 F W K (.Call (.Name "all" p) [e] [] pos) env (.dat (.bool (bs.all id))) :=
  ev_callB fm (a_cons ha a_nil (st := st)) hm (c_all fm) (hg := hg) (st := st)
/-- a comprehension without a condition tells just this -/
theorem paired_all {g : Nat → PyData} {n : Nat} {es : List PyData} (h : Paired (fun i e => e = g i) ((List.range n).filter fun _ => true) es) : es = (List.range n).map g := by
  have e : (List.range n).filter (fun _ => true) = List.range n := List.filter_eq_self.mpr fun _ _ => rfl
  rw [e] at h
  generalize List.range n = l at h
  induction h with
  | nil => rfl
  | cons r t ih => rw [r, ih]; rfl

/-! ## isinstance(x, (T, U)) -/
def isa2 (T U : String) (d : PyData) : Bool := isaD T d || isaD U d
theorem kit_two {T U : String} (hT : KitT T) (hU : KitT U) (d : PyData) : PySem.W.kitAny K (.type (tyD d)) [.type T, .type U] = some (isa2 T U d) := by
  unfold PySem.W.kitAny isa2
  rw [hT.of d]
  cases isaD T d
  · show PySem.W.kitAny K (.type (tyD d)) [.type U] = _
    unfold PySem.W.kitAny
    rw [hU.of d]
    cases isaD U d <;> rfl
  · rfl
theorem ev_isi2 (fm : Fam P w K mg base N k sc F) {e : Expr} {p p2 p3 p4 pos : Pos} {kk : Nat} {x y : Str} {T U : String} {d : PyData} (he : E1 F W K e env (.dat d)) (hm : mg "isinstance" = none) (hmT : mg x = none) (hmU : mg y = none) (hT : KitT T) (hU : KitT U) (hv : bootBuiltins x = some (.type T) := by decide +kernel) (hv2 : bootBuiltins y = some (.type U) := by decide +kernel)
    (hg : glB sc "isinstance" = true := by decide +kernel) (hgT : glB sc x = true := by decide +kernel) (hgU : glB sc y = true := by decide +kernel) (hn : x ≠ "__name__" := by decide) (hdb : (x == ("__debug__" : Str)) = false := by decide) (hn2 : y ≠ "__name__" := by decide) (hdb2 : (y == ("__debug__" : Str)) = false := by decide)
    (st : ∀ i, starEach (e :: [.Tuple [.Name x p2, .Name y p3] kk p4]) (F i).env = (false, eval e (F i).env) :: starEach [.Tuple [.Name x p2, .Name y p3] kk p4] (F i).env := by intro _; rfl) (pl : ∀ i, (backTo pos (starEach [.Tuple [.Name x p2, .Name y p3] kk p4] (F i).env)).any (·.1) = false := by intro _; rfl) :
    E1 F W K (.Call (.Name "isinstance" p) [e, .Tuple [.Name x p2, .Name y p3] kk p4] [] pos) env (.dat (.bool (isa2 T U d))) := by
  intro σ H i sd Q q
  refine ⟨tCB (WC F (.builtin "isinstance")) (tCons (WE F e) (tCons (tTup (tCons (tC (.ty T)) (tCons (tC (.ty U)) tNil))) tNil)), fun z => pe_callB (wc_call z) (gl_of (fm.es z) hg) (by rw [fm.mg z]; exact hm) (by decide +kernel) (pa_cons (we_pe z) (pa_cons (pe_tup (pa_cons (pe_bltn (gl_of (fm.es z) hgT) (by rw [fm.mg z]; exact hmT) hv rfl hn hdb) (pa_cons (pe_bltn (gl_of (fm.es z) hgU) (by rw [fm.mg z]; exact hmU) hv2 rfl hn2 hdb2) pa_nil (by rfl)) (by rfl))) pa_nil (by rfl)) (st z)) (by decide) (by decide) (st z) (pl z), ?_⟩
  refine he σ H i sd _ fun v H1 r x1 i1 d1 h1 => ?_
  subst h1
  obtain ⟨u, z, n1⟩ := d1
  cases z
  refine ⟨by show 2 ≤ sizeLine; decide, fun tp htp => ?_⟩
  obtain ⟨np, xp, ip⟩ := W.new (o := .tup [.ty T, .ty U]) i1 htp
  have xw : Wx W H1 (upd H1 tp (.tup [.ty T, .ty U])) := xp
  exact ⟨rIsiT K, fun z => by have := call_isiT (X := F z); rwa [fm.kk z] at this, _, tp, [.ty T, .ty U], .type (tyD d), [.type T, .type U], _, rfl, upd_same, .cons (.ty T) (.cons (.ty U) .nil), tyx_of (n1.mono xw), kit_two hT hU d, q _ _ _ (x1.trans xw) ip (Dn.dv (.bl _)) rfl⟩
end
end Cr

set_option Elab.async false
set_option linter.all false
set_option maxRecDepth 100000
set_option maxHeartbeats 400000
namespace Cr
open PySem PySem.Spec PyProof.Rows L2
section
variable {ι : Type} {F : ι → Cx} {P : Program} {w : World} {K : PySem.W.Frag} {mg : Str → Option Value} {base : Heap} {N : List Str} {k : Nat} {sc : Scope} {W : Wd} {env : List Sl}
/-- {i: j}, two written ints -/
theorem ev_dctI (fm : Fam P w K mg base N k sc F) {i j : Int} {k1 k2 : Nat} {p1 p2 pos : Pos} : E1 F W K (.Dict [some (.Constant (.int i) k1 p1)] [.Constant (.int j) k2 p2] pos) env (.dat (.dict [(.int i, .int j)])) := by
  intro σ H ii sd Q q
  refine ⟨tDisp [(tC (.int i), tC (.int j))], fun z => pe_disp (pps_cons pe_int pe_int pps_nil) rfl rfl (by simp) (by show 1 ≤ 15; decide), fun p hp => ?_⟩
  refine ⟨upd_same, [(.inl i, .int j)], rfl, by show 1 ≤ 15; decide, ?_⟩
  obtain ⟨np, xp, ip⟩ := W.new (o := .dK (mergeK [] [(.inl i, .int j)])) ii hp
  have e : upd (upd H p (.dK [])) p (.dK (mergeK [] [(.inl i, .int j)])) = upd H p (.dK (mergeK [] [(.inl i, .int j)])) := by
    funext x
    by_cases h : x = p
    · subst h; rw [upd_same, upd_same]
    · rw [upd_ne h, upd_ne h, upd_ne h]
  rw [e]
  exact q _ _ _ xp ip (Dn.dv (.dct np upd_same (.cons (k := .inl i) (.int j) .nil))) rfl
end
theorem at_dict1 : At (.dict [(.int 0, .int 1)]) := ⟨rfl, ⟨by simp only [PyData.showable, PyData.showableKv]; decide, by simp only [PyData.shown, PyData.shownKv]; decide +kernel⟩, by simp [PyData.depth, PyData.depthKv], fun _ e => nomatch e⟩
end Cr

set_option Elab.async false
set_option linter.all false
set_option maxRecDepth 100000
set_option maxHeartbeats 400000
namespace Cr
open PySem PySem.Spec PyProof.Rows L2
/-! ## sorted(set(t)), t a tuple of ints -/
def tSortSet (K : PySem.W.Frag) (ta : TE) : TE := fun σ H Q => ta σ H fun x H1 => ∃ (l : Addr) (ns : List Int), x = .ref l ∧ SqT K H1 l (ns.map V.int) ∧ ns.length < 64 ∧
  ∀ (out : List Int) (p : Addr), out.Pairwise (· < ·) → (∀ k, k ∈ out ↔ k ∈ ns) → H1 p = none → Q (.ref p) (upd H1 p (.lst (out.map V.int)))
theorem pe_sortSet {X : Cx} {a : Expr} {ta : TE} {p p2 q pos : Pos} (hc : X.calm = true) (hg : Gl X "sorted") (hm : X.mg "sorted" = none) (hg2 : Gl X "set") (hm2 : X.mg "set" = none) (ha : PE X a ta) (hb1 : bootBuiltins "sorted" = some (.builtin "sorted") := by decide +kernel) (hb2 : bootBuiltins "set" = some (.type "set") := by decide +kernel)
    (na : starEach [a] X.env = (false, eval a X.env) :: starEach [] X.env := by rfl) (nb : starEach [.Call (.Name "set" p2) [a] [] q] X.env = (false, eval (.Call (.Name "set" p2) [a] [] q) X.env) :: starEach [] X.env := by rfl) : PE X (.Call (.Name "sorted" p) [.Call (.Name "set" p2) [a] [] q] [] pos) (tSortSet X.K ta) := by
  refine ⟨fun pins s σ H Q I h => ?_⟩
  refine Call_ (ld_blt I hg hm hb1 ?_)
  refine PyProof.Rows.callWith_builtin1 (PyProof.Rows.args_cons ?_ nb) nb rfl
  refine Call_ (ld_blt I hg2 hm2 hb2 ?_)
  refine PyProof.Rows.callWith_type1 (PyProof.Rows.args_cons (thn (ha.run pins s σ H _ I h) fun v s1 ⟨x, H1, I1, r1, q1⟩ => PyProof.Rows.args_nil ?_) na) na rfl
  obtain ⟨l, ns, rfl, hq, hl, q1⟩ := q1
  cases r1
  obtain ⟨its, r, pl, hz⟩ := I1.tuple hq
  have hh := I1.ok.hd hc
  have pl' : s1.heap.IsTuple l its.toArray := pl
  refine call_set_tupI ns hh pl' (by simpa using RZ.intsAre_vals r) (by unfold scanBound; omega) fun h' tk c R hcn hk => ?_
  refine PyProof.Rows.args_nil ?_
  have I2 : Inv X pins σ H1 { s1 with heap := h', toks := tk } := I1.kept hk
  refine sorted_set R hh (by omega) fun s' p' out c' ks k g o hp hgp hi hs hm' hl' => ?_
  have hlen : (ks.map V.int).length ≤ sizeLine := by rw [List.length_map, hl', sizeLine_eq]; omega
  have hn : H1 p' = none := I2.hok.fresh hp
  have J := I2.call (g' := s'.gens) (t' := s'.toks) (d' := s'.drawn) (ch := []) (Un.laid (o := .lst (ks.map V.int)) k hp hn) (I2.hok.laid (o := .lst (ks.map V.int)) k hp ⟨hlen, out.toList, c', vals_of_ints hi, hgp⟩) (by rw [g]; exact I2.bare) (fun _ z => nomatch z)
  have e : s' = { s1 with heap := s'.heap, gens := s'.gens, drawn := s'.drawn, toks := s'.toks } := by
    cases s'
    cases s1
    cases o
    rfl
  rw [e]
  exact ⟨.ref p', _, J, rfl, q1 ks p' hs (fun k => by rw [hm' k]; simp) hn⟩
section
variable {ι : Type} {F : ι → Cx} {P : Program} {w : World} {K : PySem.W.Frag} {mg : Str → Option Value} {base : Heap} {N : List Str} {k : Nat} {sc : Scope} {W : Wd} {env : List Sl}
theorem dn_ints {H : Hp} : ∀ {ns : List Int} {vs : List V}, DnAll W K H vs (ns.map .int) → vs = ns.map V.int
  | [], _, h => by cases h; rfl
  | n :: ns, _, h => by
    cases h with
    | cons a t =>
      cases a
      rw [dn_ints t]
      rfl
theorem ints_dn {H : Hp} : ∀ (ns : List Int), DnAll W K H (ns.map V.int) (ns.map .int)
  | [] => .nil
  | n :: ns => .cons (.int n) (ints_dn ns)
theorem ev_sortSet (fm : Fam P w K mg base N k sc F) {e : Expr} {p p2 q pos : Pos} {ns : List Int} (ha : E1 F W K e env (.dat (.tuple (ns.map .int)))) (hl : ns.length < 64) (hm : mg "sorted" = none) (hm2 : mg "set" = none) (hg : glB sc "sorted" = true := by decide +kernel) (hg2 : glB sc "set" = true := by decide +kernel)
    (na : ∀ i, starEach [e] (F i).env = (false, eval e (F i).env) :: starEach [] (F i).env := by intro _; rfl) (nb : ∀ i, starEach [.Call (.Name "set" p2) [e] [] q] (F i).env = (false, eval (.Call (.Name "set" p2) [e] [] q) (F i).env) :: starEach [] (F i).env := by intro _; rfl) :
    Ev F W K (.Call (.Name "sorted" p) [.Call (.Name "set" p2) [e] [] q] [] pos) env fun s => ∃ out : List Int, s = .dat (.list (out.map .int)) ∧ out.Pairwise (· < ·) ∧ ∀ k, k ∈ out ↔ k ∈ ns := by
  intro σ H i sd Q qq
  refine ⟨tSortSet K (WE F e), fun z => ?_, ?_⟩
  · have := pe_sortSet (X := F z) (p := p) (p2 := p2) (q := q) (pos := pos) (fm.ca z) (gl_of (fm.es z) hg) (by rw [fm.mg z]; exact hm) (gl_of (fm.es z) hg2) (by rw [fm.mg z]; exact hm2) (we_pe (F := F) (e := e) z) (na := na z) (nb := nb z)
    rwa [fm.kk z] at this
  · refine ha σ H i sd _ fun v H1 r x1 i1 d1 h1 => ?_
    subst h1
    obtain ⟨u, z, n1⟩ := d1
    cases z
    cases n1 with
    | tup a r =>
      have e := dn_ints r
      subst e
      refine ⟨_, ns, rfl, a.sq, hl, fun out p hs hk hp => ?_⟩
      obtain ⟨x2, i2, d2⟩ := new_lst i1 hp (ints_dn (W := W) (K := K) (H := H1) out)
      exact qq _ _ _ (x1.trans x2) i2 d2.dv ⟨out, rfl, hs, hk⟩
end
end Cr

set_option Elab.async false
set_option linter.all false
set_option maxRecDepth 100000
set_option maxHeartbeats 400000
namespace Cr
open PySem PySem.Spec PyProof.Rows L2
/-! ## loops whose body may raise -/
section
variable {ι : Type} {F : ι → Cx} {P : Program} {w : World} {K : PySem.W.Frag} {mg : Str → Option Value} {base : Heap} {N : List Str} {k : Nat} {sc : Scope} {W : Wd} {env : List Sl} {wi : L2.WX} {EX : Value → XD → Prop} {XE : List Sl → Prop}
theorem bde_forT (fm : Fam P w K mg base N k sc F) {tg a : Expr} {pos : Pos} {body rest : List Stmt} {Po : Post} {ds : List PyData} (Iv : Nat → List Sl → Prop) (ha : E1 F W K a env (.dat (.tuple ds))) (h0 : Iv 0 env)
    (hs : ∀ (i : Nat) d env1, ds[i]? = some d → Iv i env1 → ∃ env2, Tg F W K tg (.dat d) env1 env2 ∧ BdE F W K wi EX XE body env2 { Po with nx := Iv (i + 1), ct := Iv (i + 1), bk := fun e => BdE F W K wi EX XE rest e Po }) (hd : ∀ env1, Iv ds.length env1 → BdE F W K wi EX XE rest env1 Po)
    (hp : ∀ i, PassesOwn (model (F i).prog (F i).w) (F i).A (F i).env (F i).xe ) (hf : ∀ i x, foldedSetIterable a (F i).env x = pure x := by intro _ _; rfl) : BdE F W K wi EX XE (.For tg a body [] pos :: rest) env Po := by
  intro σ H D ii sd g hw
  refine ⟨tSeq (tFor (iTup K (WE F a)) (WG F tg) (WS F body)) (WS F rest), fun z => pss_cons (ps_for (hp z) (fm.ca z) (by have := pi_tup (tg := tg) (we_pe (F := F) (e := a) z); rwa [fm.kk z] at this) (wg_pg z) (ws_ps z) (hf z)) (ws_ps z), ?_⟩
  refine ha σ H ii sd _ fun v H1 r x1 i1 d1 h1 => ?_
  subst h1
  obtain ⟨u, e, dn⟩ := d1
  cases e
  cases dn with
  | @tup ad xs _ la da =>
    refine ⟨ad, rfl, ⟨xs, la.sq⟩, for_tup (D := { D with nx := WS F rest D }) (fun i σ' H' => ∃ e, Wx W H1 H' ∧ W.I H' ∧ Sd W K H' σ' e ∧ Iv i e) ⟨env, Wx.refl W H1, i1, sd.mono x1, h0⟩ (fun i σ' H' _ ⟨e, x', _⟩ => (la.mono x').sq) ?_ ?_⟩
    · intro i x σ' H' hx ⟨e, x', i', s', iv⟩
      obtain ⟨d, hd2, dn⟩ := da.getV hx
      obtain ⟨env2, ht, hb⟩ := hs i d e hd2 iv
      refine ht x σ' H' i' s' (dn.mono x').dv _ fun σ2 H2 x2 i2 s2 => ?_
      refine hb σ2 H2 _ i2 s2 ⟨fun σ3 H3 e3 y j s3 h3 => ⟨e3, (x'.trans x2).trans y, j, s3, h3⟩, fun v H3 r y => g.rt v H3 r (x1.trans ((x'.trans x2).trans y)), fun σ3 H3 e3 y j s3 h3 => h3 σ3 H3 D j s3 (g.mono (x1.trans ((x'.trans x2).trans y))) fun cls fs d σ4 H4 env4 e1 e2 e5 y2 => hw cls fs d σ4 H4 env4 e1 e2 e5 ((x1.trans ((x'.trans x2).trans y)).trans y2), fun σ3 H3 e3 y j s3 h3 => ⟨e3, (x'.trans x2).trans y, j, s3, h3⟩⟩ fun cls fs d σ4 H4 env4 e1 e2 e5 y2 => hw cls fs d σ4 H4 env4 e1 e2 e5 ((x1.trans (x'.trans x2)).trans y2)
    · intro σ' H' ⟨e, x', i', s', iv⟩
      rw [da.length] at iv
      exact hd e iv σ' H' D i' s' (g.mono (x1.trans x')) fun cls fs d σ4 H4 env4 e1 e2 e5 y2 => hw cls fs d σ4 H4 env4 e1 e2 e5 ((x1.trans x').trans y2)

theorem bde_forL (fm : Fam P w K mg base N k sc F) {tg a : Expr} {pos : Pos} {body rest : List Stmt} {Po : Post} {ds : List PyData} (Iv : Nat → List Sl → Prop) (ha : E1 F W K a env (.dat (.list ds))) (h0 : Iv 0 env)
    (hs : ∀ (i : Nat) d env1, ds[i]? = some d → Iv i env1 → ∃ env2, Tg F W K tg (.dat d) env1 env2 ∧ BdE F W K wi EX XE body env2 { Po with nx := Iv (i + 1), ct := Iv (i + 1), bk := fun e => BdE F W K wi EX XE rest e Po }) (hd : ∀ env1, Iv ds.length env1 → BdE F W K wi EX XE rest env1 Po)
    (hp : ∀ i, PassesOwn (model (F i).prog (F i).w) (F i).A (F i).env (F i).xe ) (hf : ∀ i x, foldedSetIterable a (F i).env x = pure x := by intro _ _; rfl) : BdE F W K wi EX XE (.For tg a body [] pos :: rest) env Po := by
  intro σ H D ii sd g hw
  refine ⟨tSeq (tFor (iList K (WE F a)) (WG F tg) (WS F body)) (WS F rest), fun z => pss_cons (ps_for (hp z) (fm.ca z) (by have := pi_list (tg := tg) (we_pe (F := F) (e := a) z); rwa [fm.kk z] at this) (wg_pg z) (ws_ps z) (hf z)) (ws_ps z), ?_⟩
  refine ha σ H ii sd _ fun v H1 r x1 i1 d1 h1 => ?_
  subst h1
  obtain ⟨u, e, dn⟩ := d1
  cases e
  cases dn with
  | @lst ad xs _ la da =>
    refine ⟨ad, rfl, ⟨xs, la.sq⟩, for_list (D := { D with nx := WS F rest D }) (fun i σ' H' => ∃ e, Wx W H1 H' ∧ W.I H' ∧ Sd W K H' σ' e ∧ Iv i e) ⟨env, Wx.refl W H1, i1, sd.mono x1, h0⟩ (fun i σ' H' _ ⟨e, x', _⟩ => (la.mono x').sq) ?_ ?_⟩
    · intro i x σ' H' hx ⟨e, x', i', s', iv⟩
      obtain ⟨d, hd2, dn⟩ := da.getV hx
      obtain ⟨env2, ht, hb⟩ := hs i d e hd2 iv
      refine ht x σ' H' i' s' (dn.mono x').dv _ fun σ2 H2 x2 i2 s2 => ?_
      refine hb σ2 H2 _ i2 s2 ⟨fun σ3 H3 e3 y j s3 h3 => ⟨e3, (x'.trans x2).trans y, j, s3, h3⟩, fun v H3 r y => g.rt v H3 r (x1.trans ((x'.trans x2).trans y)), fun σ3 H3 e3 y j s3 h3 => h3 σ3 H3 D j s3 (g.mono (x1.trans ((x'.trans x2).trans y))) fun cls fs d σ4 H4 env4 e1 e2 e5 y2 => hw cls fs d σ4 H4 env4 e1 e2 e5 ((x1.trans ((x'.trans x2).trans y)).trans y2), fun σ3 H3 e3 y j s3 h3 => ⟨e3, (x'.trans x2).trans y, j, s3, h3⟩⟩ fun cls fs d σ4 H4 env4 e1 e2 e5 y2 => hw cls fs d σ4 H4 env4 e1 e2 e5 ((x1.trans (x'.trans x2)).trans y2)
    · intro σ' H' ⟨e, x', i', s', iv⟩
      rw [da.length] at iv
      exact hd e iv σ' H' D i' s' (g.mono (x1.trans x')) fun cls fs d σ4 H4 env4 e1 e2 e5 y2 => hw cls fs d σ4 H4 env4 e1 e2 e5 ((x1.trans x').trans y2)

end
theorem dfx_passes {P : Program} {w : World} {K : PySem.W.Frag} {mg : Str → Option Value} {base : Heap} {N : List Str} {qual : Str} {sc : Scope} {f : Addr} {cdv : Value} {A : Around} {fr : List Env} {s : Shared} {H : Hp} {E : XK} (i : Unit) :
    PassesOwn (model (DFX P w K mg base N qual sc f cdv A fr s H E i).prog (DFX P w K mg base N qual sc f cdv A fr s H E i).w) (DFX P w K mg base N qual sc f cdv A fr s H E i).A (DFX P w K mg base N qual sc f cdv A fr s H E i).env (DFX P w K mg base N qual sc f cdv A fr s H E i).xe := passes_of rfl
end Cr

set_option Elab.async false
set_option linter.all false
set_option maxRecDepth 100000
set_option maxHeartbeats 1000000
namespace Dr
open PySem PySem.Spec PyProof.Rows L2 Cr

/-! ## slots, seen from afar -/
inductive Sv where
  | dat (d : PyData)
  | own (d : PyData)
  | raw (v : V)
  | any
def absS : Sl → Sv
  | .dat d => .dat d
  | .raw v => .raw v
  | .any => .any
  | .ml _ _ ds => .own (.list ds)
  | .od _ _ d => .own d
def cellS : Sl → List (Addr × HO)
  | .ml p us _ => [(p, .lst us)]
  | .od p o _ => [(p, o)]
  | _ => []
def cellsOf : List Sl → List (Addr × HO)
  | [] => []
  | s :: r => cellS s ++ cellsOf r
structure Exc where
  nm : Str
  fs : List (Str × PyData)
def XdOf (W : Wd) (K : PySem.W.Frag) (H : Hp) : XD → List (Str × PyData) → Prop
  | [], [] => True
  | (f, v) :: xs, (g, d) :: ds => f = g ∧ Dn W K H v d ∧ XdOf W K H xs ds
  | _, _ => False
/-- an error in flight -/
def IsXc (cA : Str → Value) (W : Wd) (K : PySem.W.Frag) (H : Hp) (x : Exc) (cls : Value) (d : Option Addr) : Prop := cls = cA x.nm ∧ ∃ xd, XdOf W K H xd x.fs ∧ IsX xd d H
def OwnAt (W : Wd) (K : PySem.W.Frag) (H : Hp) (p : Addr) (d : PyData) : Prop := ∃ o, H p = some o ∧ OD W K H o d
/-- what came of an expression: H0 ahead of it -/
def Rv (W : Wd) (K : PySem.W.Frag) (H0 H : Hp) (v : V) : Sv → Prop
  | .dat d => Dn W K H v d
  | .own d => ∃ p, v = .ref p ∧ H0 p = none ∧ ¬ W.M p ∧ OwnAt (W.opn p) K H p d
  | .raw u => v = u
  | .any => True
section
variable {W V : Wd} {K : PySem.W.Frag} {H H0 H1 H' : Hp} {v : L2.V} {p : Addr} {d : PyData}
theorem opn_M (a : Addr) (n : H a ≠ none) (m : W.M a) : (W.opn p).M a := Or.inl m
theorem od_down {o : HO} (h : OD (W.opn p) K H o d) : OD W K H o d := OD.to (W := W.opn p) (W' := W) (fun a _ m => Or.inl m) h
theorem own_dn (n : ¬ W.M p) (h : OwnAt (W.opn p) K H p d) : Dn W K H (.ref p) d := by
  obtain ⟨o, e, h⟩ := h
  have h := od_down h
  unfold OD at h
  split at h
  · exact .lst ⟨n, e⟩ h
  · exact .dct n e h
  · exact h.elim
theorem Rv.dn {r : Sv} (h : Rv W K H0 H v r) (e : r = .dat d ∨ r = .own d) : Dn W K H v d := by
  rcases e with rfl | rfl
  · exact h
  · obtain ⟨p, rfl, _, n, h⟩ := h
    exact own_dn n h
theorem OwnAt.mono (x : Wx (W.opn p) H H') (n : H p = H' p) (h : OwnAt (W.opn p) K H p d) : OwnAt (W.opn p) K H' p d := by
  obtain ⟨o, e, h⟩ := h
  exact ⟨o, n ▸ e, OD.mono x h⟩
theorem Rv.back {r : Sv} (x : Wx W H0 H1) (i : W.I H0) (h : Rv W K H1 H v r) : Rv W K H0 H v r := by
  cases r with
  | own d =>
    obtain ⟨p, e, z, n, h⟩ := h
    refine ⟨p, e, ?_, n, h⟩
    cases q : H0 p with
    | none => rfl
    | some o => rw [x p o n q] at z; exact nomatch z
  | _ => exact h
end
def asD (r : Sv) (k : PyData → Prop) : Prop := match r with
  | .dat d => k d
  | .own d => k d
  | _ => False
theorem asD_dn {W : Wd} {K : PySem.W.Frag} {H0 H : Hp} {v : V} {r : Sv} {k : PyData → Prop} (h : Rv W K H0 H v r) (a : asD r k) : ∃ d, k d ∧ Dn W K H v d := by
  cases r with
  | dat d => exact ⟨d, a, h⟩
  | own d => exact ⟨d, a, h.dn (Or.inr rfl)⟩
  | raw _ => exact a.elim
  | any => exact a.elim

/-! ## judgements -/
/-- what stands still from H to H', the worlds V and U -/
def Mv (V : Wd) (H : Hp) (U : Wd) (H' : Hp) : Prop := ∀ a o, H a = some o → ¬ V.M a → H' a = some o ∧ ¬ U.M a
section
variable {V U : Wd} {K : PySem.W.Frag} {H H' : Hp}
mutual
theorem Dn.move (m : Mv V H U H') : ∀ {d : PyData} {v : L2.V}, Dn V K H v d → Dn U K H' v d
  | .none, _, h => by cases h; exact .non
  | .bool _, _, h => by cases h; exact .bl _
  | .int _, _, h => by cases h; exact .int _
  | .str _, _, h => by cases h; exact .str _
  | .list ds, _, h => by
    cases h with
    | lst a r => exact .lst ⟨(m _ _ a.2 a.1).2, (m _ _ a.2 a.1).1⟩ (DnAll.move m r)
  | .tuple ds, _, h => by
    cases h with
    | tup a r => exact .tup (a.imp (fun a => ⟨(m _ _ a.2 a.1).2, (m _ _ a.2 a.1).1⟩) id) (DnAll.move m r)
  | .dict es, _, h => by
    cases h with
    | dct n a r => exact .dct (m _ _ a n).2 (m _ _ a n).1 (DnKv.move m r)
theorem DnAll.move (m : Mv V H U H') : ∀ {ds : List PyData} {vs : List L2.V}, DnAll V K H vs ds → DnAll U K H' vs ds
  | [], _, h => by cases h; exact .nil
  | d :: ds, _, h => by
    cases h with
    | cons a t => exact .cons (Dn.move m a) (DnAll.move m t)
theorem DnKv.move (m : Mv V H U H') : ∀ {es : List (PyData × PyData)} {kvs : List (Key × L2.V)}, DnKv V K H kvs es → DnKv U K H' kvs es
  | [], _, h => by cases h; exact .nil
  | (_, d) :: es, _, h => by
    cases h with
    | cons a t => exact .cons (Dn.move m a) (DnKv.move m t)
end
end
section
variable {ι : Type} (F : ι → Cx) (V : Wd) (K : PySem.W.Frag) (cA : Str → Value) (wi : L2.WX)
def XOk (X : Exc → Prop) (σ : L2.St) (H : Hp) : Prop := ∀ x cls d H', X x → IsXc cA V K H' x cls d → Wx V H H' → V.I H' → wi cls d σ H'
def EvS (e : Expr) (cfg : List Sl) (R : Sv → Prop) (X : Exc → Prop) : Prop :=
  ∀ (σ : L2.St) (H : Hp), V.I H → Sd V K H σ cfg → ∀ Q : VK, (∀ v H' r, Wx V H H' → V.I H' → Rv V K H H' v r → R r → Q v H') → XOk V K cA wi X σ H → WE F e σ H Q
def EvL (es : List Expr) (cfg : List Sl) (R : List PyData → Prop) (X : Exc → Prop) : Prop :=
  ∀ (σ : L2.St) (H : Hp), V.I H → Sd V K H σ cfg → ∀ Q : List L2.V → Hp → Prop, (∀ vs H' ds, Wx V H H' → V.I H' → DnAll V K H' vs ds → R ds → Q vs H') → XOk V K cA wi X σ H → WA F es σ H Q
def EvB (e : Expr) (cfg : List Sl) (R : Bool → Prop) (X : Exc → Prop) : Prop :=
  ∀ (σ : L2.St) (H : Hp), V.I H → Sd V K H σ cfg → ∀ Q : Bool → Hp → Prop, (∀ b H', Wx V H H' → V.I H' → R b → Q b H') → XOk V K cA wi X σ H → WT F e σ H Q
def EvWs (e : Expr) (cfg : List Sl) (R : Bool → Prop) (X : Exc → Prop) : Prop :=
  ∀ (σ : L2.St) (H : Hp), V.I H → Sd V K H σ cfg → ∀ Q : Bool → Hp → Prop, (∀ b H', Wx V H H' → V.I H' → R b → Q b H') → XOk V K cA wi X σ H → WW F e σ H Q
/-- what a walk yields from H1 on -/
structure IterD (H1 : Hp) (J : It) (ds : List PyData) : Prop where
  go : ∀ (i : Nat) d, ds[i]? = some d → ∀ (U : Wd) H', Mv V H1 U H' → U.I H' → J.go i H' ∧ ∀ x H2, J.yld i H' x H2 → Xt H' H2 ∧ Dn U K H2 x d
  stop : ∀ (U : Wd) H', Mv V H1 U H' → J.stop ds.length H'
def EvI (tg it : Expr) (cfg : List Sl) (R : List PyData → Prop) (X : Exc → Prop) : Prop :=
  ∀ (σ : L2.St) (H : Hp), V.I H → Sd V K H σ cfg → ∀ Q : It → Hp → Prop, (∀ J H' ds, Wx V H H' → V.I H' → IterD V K H' J ds → R ds → Q J H') → XOk V K cA wi X σ H → WI F tg it σ H Q
end
section
variable {ι : Type} {F : ι → Cx} {V : Wd} {K : PySem.W.Frag} {cA : Str → Value} {wi : L2.WX} {cfg : List Sl} {X : Exc → Prop}
theorem XOk.mono {σ : L2.St} {H H' : Hp} (h : XOk V K cA wi X σ H) (x : Wx V H H') : XOk V K cA wi X σ H' := fun a b c H2 q e y i => h a b c H2 q e (x.trans y) i
theorem es_imp {e : Expr} {R R' : Sv → Prop} (h : EvS F V K cA wi e cfg R X) (m : ∀ r, R r → R' r) : EvS F V K cA wi e cfg R' X := fun σ H i sd Q q x => h σ H i sd Q (fun v H' r y i' rv hr => q v H' r y i' rv (m r hr)) x
/-- from the layer beneath -/
theorem es_of {e : Expr} {R : Sv → Prop} {R0 : Sl → Prop} (h : Ev F V K e cfg R0) (m : ∀ s, R0 s → ∃ d, s = .dat d ∧ R (.dat d)) : EvS F V K cA wi e cfg R X := by
  intro σ H i sd Q q _
  refine h σ H i sd Q fun v H' r y i' dv hr => ?_
  obtain ⟨d, rfl, hd⟩ := m r hr
  obtain ⟨u, e, dn⟩ := dv
  cases e
  exact q v H' (.dat d) y i' dn hd
theorem es_one {e : Expr} {R : Sv → Prop} {d : PyData} (h : E1 F V K e cfg (.dat d)) (m : R (.dat d)) : EvS F V K cA wi e cfg R X := es_of h fun s z => ⟨d, z, m⟩
theorem el_nil {R : List PyData → Prop} (h : R []) : EvL F V K cA wi [] cfg R X := fun σ H i sd Q q _ => ⟨tNil, fun _ => pa_nil, q [] H [] (Wx.refl V H) i .nil h⟩
theorem el_cons {e : Expr} {es : List Expr} {R : List PyData → Prop} {R1 : Sv → Prop} {R2 : PyData → List PyData → Prop} (h : EvS F V K cA wi e cfg R1 X) (m : ∀ r, R1 r → asD r fun d => EvL F V K cA wi es cfg (fun ds => R (d :: ds)) X)
    (st : ∀ i, starEach (e :: es) (F i).env = (false, eval e (F i).env) :: starEach es (F i).env) : EvL F V K cA wi (e :: es) cfg R X := by
  intro σ H i sd Q q x
  refine ⟨tCons (WE F e) (WA F es), fun z => pa_cons (we_pe z) (wa_pa z) (st z), ?_⟩
  refine h σ H i sd _ (fun v H1 r x1 i1 rv hr => ?_) x
  obtain ⟨d, hd, dn⟩ := asD_dn rv (m r hr)
  refine hd σ H1 i1 (sd.mono x1) _ (fun vs H2 ds x2 i2 dns hds => ?_) (x.mono x1)
  exact q (v :: vs) H2 (d :: ds) (x1.trans x2) i2 (.cons (dn.mono x2) dns) hds
end
end Dr

set_option Elab.async false
set_option linter.all false
set_option maxRecDepth 100000
set_option maxHeartbeats 1000000
namespace Dr
open PySem PySem.Spec PyProof.Rows L2 Cr

/-! ## a small language, and what its texts ask -/
inductive Bi where
  | len | int | abs | max | min | repr | tuple | list | sum | str | any | all
  deriving DecidableEq
inductive Tgt where
  | nm (j : Nat)
  | tp (ts : List Tgt)
inductive Ex where
  | cst (c : PyData)
  | var (j : Nat)
  | glb (i : Nat)
  | tup (es : List Ex)
  | lst (es : List Ex)
  | dct0
  | bin (op : Operator) (a b : Ex)
  | cmp (op : CmpOp) (a b : Ex)
  | neg (a : Ex)
  | not (a : Ex)
  | and (es : List Ex)
  | or (es : List Ex)
  | tru (a : Ex)
  | ifx (c a b : Ex)
  | idx (a b : Ex)
  | cut (a : Ex) (lo hi : Option Ex)
  | bi (f : Bi) (es : List Ex)
  | isi (a : Ex) (ts : List String)
  | fn (i : Nat) (es : List Ex)
  | fnP (i j : Nat) (es : List Ex)
  | lc (elt : Ex) (tg : Tgt) (src : Ex) (ifs : List Ex)
  | lc2 (elt : Ex) (tg : Tgt) (src : Ex) (ifs : List Ex) (tg1 : Tgt) (src1 : Ex) (ifs1 : List Ex)
  | rng (a : Ex)
  | enu (a : Ex)
  | zip (a b : Ex)
  | view (a : Ex)
  | viewT (a : Ex)
  | idxO (j : Nat) (b : Ex)
  | cmp2 (o1 o2 : CmpOp) (a b c : Ex)
  | sset (a : Ex)
  | dget (a b : Ex)
  | get2 (a b c : Ex)
  | enuT (a : Ex)
structure Ctr where
  lvl : Nat
  ps : List Str
  pot : Bool
  ct : List PyData → (Sv → Prop) → (Exc → Prop) → Prop
structure GI where
  fns : List (Str × Ctr)
  cs : List (Str × PyData)
  pot : Option (Addr × Addr × List Int)
  xs : List (Str × Bool)

/-! ### the operations -/
def scalD : PyData → PyData → Bool
  | .none, .none => true | .none, .int _ => true | .int _, .none => true | .none, .bool _ => true | .bool _, .none => true | .none, .str _ => true | .str _, .none => true
  | .int _, .int _ => true | .bool _, .bool _ => true | .str _, .str _ => true
  | .int _, .str _ => true | .str _, .int _ => true | .bool _, .str _ => true | .str _, .bool _ => true
  | _, _ => false
def NeOk (x y : PyData) : Prop := scalD x y = true ∨ (Nice x 20 ∧ Nice y 20)
def EqOk (x y : PyData) : Prop := NeOk x y ∨ ∃ ds, x = .list ds ∧ y = .list []
def InOk (x : PyData) (ds : List PyData) : Prop := (flatD x = true ∧ ds.all flatD = true) ∨ (Nice x 20 ∧ Nice (.list ds) 20)
def InOkT (x : PyData) (ds : List PyData) : Prop := InOk x ds ∨ (okD x = true ∧ ∃ ss : List Str, ds = ss.map .str)
def binW (op : Operator) (x y : PyData) (k : PyData → Prop) : Prop := match op, x, y with
  | .Add, .int i, .int j => k (.int (i + j))
  | .Sub, .int i, .int j => k (.int (i - j))
  | .Mult, .int i, .int j => CMul i j ∧ k (.int (i * j))
  | .Mod, .int i, .int j => 0 < j ∧ k (.int (i % j))
  | .FloorDiv, .int i, .int j => CDivW i j ∧ k (.int (i / j))
  | .Pow, .int i, .int j => CPow i j ∧ k (.int (i ^ j.toNat))
  | .Add, .list a, .list b => a.length + b.length ≤ 16777216 ∧ k (.list (a ++ b))
  | .Add, .tuple a, .tuple b => a.length + b.length ≤ 16777216 ∧ k (.tuple (a ++ b))
  | .Add, .str a, .str b => a.length + b.length ≤ 16777216 ∧ k (.str (a ++ b))
  | .Mult, .list a, .int n => -1000000 ≤ n ∧ n ≤ 1000000 ∧ a.length * n.toNat ≤ 16777216 ∧ k (.list (List.replicate n.toNat a).flatten)
  | .Mult, .tuple a, .int n => a ≠ [] ∧ 2 ≤ n ∧ n ≤ 1000 ∧ a.length ≤ 1000 ∧ k (.tuple (List.replicate n.toNat a).flatten)
  | _, _, _ => False
def cmpW (op : CmpOp) (x y : PyData) (k : Bool → Prop) : Prop := match op, x, y with
  | .Lt, .int i, .int j => k (decide (i < j))
  | .LtE, .int i, .int j => k (decide (i ≤ j))
  | .Gt, .int i, .int j => k (decide (j < i))
  | .GtE, .int i, .int j => k (decide (j ≤ i))
  | .Eq, .int i, .int j => k (decide (i = j))
  | .NotEq, .int i, .int j => k (!decide (i = j))
  | .Eq, .str i, .str j => k (decide (i = j))
  | .NotEq, .str i, .str j => k (!decide (i = j))
  | .Eq, x, y => EqOk x y ∧ k (PyData.eqv x y)
  | .NotEq, x, y => NeOk x y ∧ k (!PyData.eqv x y)
  | .Is, x, .none => k (isNone x)
  | .IsNot, x, .none => k (!isNone x)
  | .Is, .bool a, .bool b => k (decide (a = b))
  | .IsNot, .bool a, .bool b => k (!decide (a = b))
  | .In, x, .list ds => InOk x ds ∧ k (inD x ds)
  | .NotIn, x, .list ds => InOk x ds ∧ k (!inD x ds)
  | .In, x, .tuple ds => InOkT x ds ∧ k (inD x ds)
  | .NotIn, x, .tuple ds => InOkT x ds ∧ k (!inD x ds)
  | .In, .str x, .str z => ∃ c, x = ⟨#[c]⟩ ∧ k (signIn c z)
  | .NotIn, .str x, .str z => ∃ c, x = ⟨#[c]⟩ ∧ k (!signIn c z)
  | _, _, _ => False
def truW (d : PyData) (k : Bool → Prop) : Prop := match d with
  | .bool b => k b
  | _ => False
def idxW (x y : PyData) (k : PyData → Prop) : Prop := match x, y with
  | .list ds, .int i => ∃ d, atI ds i = some d ∧ k d
  | .tuple ds, .int i => ∃ d, atI ds i = some d ∧ k d
  | _, _ => False
def cutW (x : PyData) (l h : Option Int) (k : PyData → Prop) : Prop := match x with
  | .list ds => k (.list (cutD ds l h))
  | .tuple ds => k (.tuple (cutD ds l h))
  | _ => False
def foldW (f : Bi) (xs : List PyData) (k : PyData → Prop) : Prop := match f with
  | .all => ∃ bs : List Bool, xs = bs.map .bool ∧ k (.bool (bs.all id))
  | .any => ∃ bs : List Bool, xs = bs.map .bool ∧ k (.bool (bs.any id))
  | .sum => ∃ ns : List Int, xs = ns.map .int ∧ k (.int ns.sum)
  | .max => ∃ ns : List Int, xs = ns.map .int ∧ 0 < ns.length ∧ ∀ m, m ∈ ns → (∀ y ∈ ns, y ≤ m) → k (.int m)
  | .min => ∃ ns : List Int, xs = ns.map .int ∧ 0 < ns.length ∧ ∀ m, m ∈ ns → (∀ y ∈ ns, m ≤ y) → k (.int m)
  | _ => False
def ssetW (x : PyData) (k : PyData → Prop) : Prop := ∃ ns : List Int, (x = .list (ns.map .int) ∨ x = .tuple (ns.map .int)) ∧ ns.length < 64 ∧ ∀ out : List Int, out.Pairwise (· < ·) → (∀ k, k ∈ out ↔ k ∈ ns) → k (.list (out.map .int))
def keyIs : PyData → Key → Bool
  | .int i, .inl j => i == j
  | .str s, .inr u => s == u
  | _, _ => false
def lookK : List (PyData × PyData) → Key → Option PyData
  | [], _ => none
  | (e, d) :: r, k => if keyIs e k = true then some d else lookK r k
def putD (es : List (PyData × PyData)) (k : Key) (d : PyData) : List (PyData × PyData) :=
  if (es.any fun e => keyIs e.1 k) = true then es.map (fun e => if keyIs e.1 k = true then (e.1, d) else e) else es ++ [(keyD k, d)]
def keyW (d : PyData) (k : Key → Prop) : Prop := match d with
  | .int i => k (.inl i)
  | .str s => k (.inr s)
  | _ => False
def keyN (d : PyData) (k : Option Key → Prop) : Prop := match d with
  | .none => k none
  | d => keyW d fun q => k (some q)
def biW (f : Bi) (ds : List PyData) (k : PyData → Prop) : Prop := match f, ds with
  | .len, [.list xs] => k (.int (xs.length : Int))
  | .len, [.tuple xs] => k (.int (xs.length : Int))
  | .len, [.str z] => z.length ≤ 16777216 ∧ k (.int (z.length : Int))
  | .int, [.int n] => k (.int n)
  | .int, [.bool b] => k (.int (if b then 1 else 0))
  | .abs, [.int n] => k (.int (if n < 0 then -n else n))
  | .max, [.int n, .int m] => k (.int (if m > n then m else n))
  | .min, [.int n, .int m] => k (.int (if m < n then m else n))
  | .repr, [d] => ShowsO d ∧ k (.str d.shown)
  | .tuple, [.list xs] => k (.tuple xs)
  | .list, [.list xs] => k (.list xs)
  | .list, [.tuple xs] => k (.list xs)
  | f, [.list xs] => foldW f xs k
  | _, _ => False
def zipL (ds es : List PyData) : List PyData := (ds.zip es).map fun z => .tuple [z.1, z.2]
def zipW (x y : PyData) (k : List PyData → Prop) : Prop := match x, y with
  | .list ds, .list es => k (zipL ds es)
  | .tuple ds, .tuple es => k (zipL ds es)
  | _, _ => False
def enuL (ds : List PyData) : List PyData := ds.zipIdx.map fun z => .tuple [.int (z.2 : Int), z.1]
def asB (r : Sv) (k : Bool → Prop) : Prop := match r with
  | .dat (.bool b) => k b
  | _ => False
def asI (r : Sv) (k : Int → Prop) : Prop := match r with
  | .dat (.int b) => k b
  | _ => False
def asS (r : Sv) (k : List PyData → Prop) : Prop := match r with
  | .dat (.list ds) => k ds
  | .dat (.tuple ds) => k ds
  | .own (.list ds) => k ds
  | _ => False
def thaw : Sv → Sv
  | .own d => .dat d
  | s => s

/-! ### targets -/
def tgL (f : Tgt → PyData → List Sv → (List Sv → Prop) → Prop) : List Tgt → List PyData → List Sv → (List Sv → Prop) → Prop
  | [], [], env, k => k env
  | t :: ts, d :: ds, env, k => f t d env fun e => tgL f ts ds e k
  | _, _, _, _ => False
def tgW : Nat → Tgt → PyData → List Sv → (List Sv → Prop) → Prop
  | 0, _, _, _, _ => False
  | _ + 1, .nm j, d, env, k => k (env.set j (.dat d))
  | n + 1, .tp ts, d, env, k => match d with
    | .tuple ds => tgL (tgW n) ts ds env k
    | .list ds => tgL (tgW n) ts ds env k
    | _ => False
def slotsL (f : Tgt → List Nat) : List Tgt → List Nat
  | [] => []
  | t :: ts => f t ++ slotsL f ts
def slotsT : Nat → Tgt → List Nat
  | 0, _ => []
  | _ + 1, .nm j => [j]
  | n + 1, .tp ts => slotsL (slotsT n) ts
def wipeS (env : List Sv) : List Nat → List Sv
  | [] => env
  | v :: vs => (wipeS env vs).set v .any

/-! ### expressions -/
def wpL (f : Ex → (Sv → Prop) → Prop) : List Ex → (List PyData → Prop) → Prop
  | [], k => k []
  | e :: es, k => f e fun r => asD r fun d => wpL f es fun ds => k (d :: ds)
def wpAnd (f : Ex → (Sv → Prop) → Prop) : List Ex → (Bool → Prop) → Prop
  | [], _ => False
  | [e], k => f e fun r => asB r k
  | e :: es, k => f e fun r => asB r fun b => if b = true then wpAnd f es k else k false
def wpOr (f : Ex → (Sv → Prop) → Prop) : List Ex → (Bool → Prop) → Prop
  | [], _ => False
  | [e], k => f e fun r => asB r k
  | e :: es, k => f e fun r => asB r fun b => if b = true then k true else wpOr f es k
def wpIfs (f : Ex → (Sv → Prop) → Prop) : List Ex → (Bool → Prop) → Prop
  | [], k => k true
  | e :: es, k => f e fun r => asB r fun b => if b = true then wpIfs f es k else k false
def wpO (f : Ex → (Sv → Prop) → Prop) : Option Ex → (Option Int → Prop) → Prop
  | none, k => k none
  | some e, k => f e fun r => asI r fun i => k (some i)
/-- the turns of a comprehension -/
def lcW (tf : PyData → (List Sv → Prop) → Prop) (cf : List Sv → (Bool → Prop) → Prop) (ef : List Sv → (PyData → Prop) → Prop) : List PyData → List PyData → (List PyData → Prop) → Prop
  | [], acc, k => acc.length ≤ 16777215 ∧ k acc
  | d :: ds, acc, k => tf d fun e1 => cf e1 fun b => if b = true then ef e1 fun x => acc.length < 16777215 ∧ lcW tf cf ef ds (acc ++ [x]) k else lcW tf cf ef ds acc k
/-- .. of one with two clauses: the inner turns hand on to the outer ones -/
def lcW2 (tf : PyData → (List Sv → Prop) → Prop) (cf : List Sv → (Bool → Prop) → Prop) (sf : List Sv → (List PyData → Prop) → Prop) (tf1 : List Sv → PyData → (List Sv → Prop) → Prop) (cf1 : List Sv → (Bool → Prop) → Prop) (ef : List Sv → (PyData → Prop) → Prop) : List PyData → List PyData → (List PyData → Prop) → Prop
  | [], acc, k => acc.length ≤ 16777215 ∧ k acc
  | d :: ds, acc, k => tf d fun e1 => cf e1 fun b => if b = true then sf e1 fun ds1 => lcW (tf1 e1) cf1 ef ds1 acc fun acc1 => lcW2 tf cf sf tf1 cf1 ef ds acc1 k else lcW2 tf cf sf tf1 cf1 ef ds acc k
def wpE (G : GI) : Nat → List Sv → (Exc → Prop) → Ex → (Sv → Prop) → Prop
  | 0, _, _, _, _ => False
  | n + 1, env, X, e, R => match e with
    | .cst c => R (.dat c)
    | .var j => match env[j]? with
      | some (.dat d) => R (.dat d)
      | some (.raw v) => R (.raw v)
      | _ => False
    | .glb i => match G.cs[i]? with
      | some c => R (.dat c.2)
      | none => False
    | .tup es => wpL (wpE G n env X) es fun ds => R (.dat (.tuple ds))
    | .lst es => wpL (wpE G n env X) es fun ds => R (.own (.list ds))
    | .dct0 => R (.own (.dict []))
    | .bin op a b => wpE G n env X a fun r => asD r fun x => wpE G n env X b fun r => asD r fun y => binW op x y fun z => R (.dat z)
    | .cmp op a b => wpE G n env X a fun r => asD r fun x => wpE G n env X b fun r => asD r fun y => cmpW op x y fun z => R (.dat (.bool z))
    | .neg a => wpE G n env X a fun r => asI r fun i => R (.dat (.int (-i)))
    | .not a => wpE G n env X a fun r => asB r fun b => R (.dat (.bool (!b)))
    | .and es => wpAnd (wpE G n env X) es fun b => R (.dat (.bool b))
    | .or es => wpOr (wpE G n env X) es fun b => R (.dat (.bool b))
    | .tru a => wpE G n env X a fun r => asD r fun d => truW d fun b => R (.dat (.bool b))
    | .ifx c a b => wpE G n env X c fun r => asB r fun t => if t = true then wpE G n env X a R else wpE G n env X b R
    | .idx a b => wpE G n env X a fun r => asD r fun x => wpE G n env X b fun r => asD r fun y => idxW x y fun z => R (.dat z)
    | .cut a lo hi => wpE G n env X a fun r => asD r fun x => wpO (wpE G n env X) lo fun l => wpO (wpE G n env X) hi fun h => cutW x l h fun z => R (.dat z)
    | .bi f es => wpL (wpE G n env X) es fun ds => biW f ds fun z => R (.dat z)
    | .isi a ts => wpE G n env X a fun r => asD r fun d => R (.dat (.bool (ts.any fun T => isaD T d)))
    | .fn i es => match G.fns[i]? with
      | some c => wpL (wpE G n env X) es fun ds => c.2.ct ds R X
      | none => False
    | .fnP i j es => match G.fns[i]?, G.pot with
      | some c, some p => env[j]? = some (.raw (.ref p.1)) ∧ wpL (wpE G n env X) es fun ds => c.2.ct ds R X
      | _, _ => False
    | .lc elt tg src ifs => wpE G n env X src fun r => asS r fun ds => lcW (fun d k => tgW 9 tg d (wipeS env (slotsT 9 tg)) k) (fun e1 k => wpIfs (wpE G n e1 fun _ => False) ifs k) (fun e1 k => wpE G n e1 (fun _ => False) elt fun r => asD r k) ds [] fun es => R (.own (.list es))
    | .lc2 elt tg src ifs tg1 src1 ifs1 => wpE G n env X src fun r => asS r fun ds => lcW2 (fun d k => tgW 9 tg d (wipeS env (slotsT 9 tg ++ slotsT 9 tg1)) k) (fun e1 k => wpIfs (wpE G n e1 fun _ => False) ifs k) (fun e1 k => wpE G n e1 (fun _ => False) src1 fun r => asS r k) (fun e1 d k => tgW 9 tg1 d (wipeS e1 (slotsT 9 tg1)) k)
        (fun e1 k => wpIfs (wpE G n e1 fun _ => False) ifs1 k) (fun e1 k => wpE G n e1 (fun _ => False) elt fun r => asD r k) ds [] fun es => R (.own (.list es))
    | .rng a => wpE G n env X a fun r => asI r fun i => (-1000000 ≤ i ∧ i ≤ 1000000) ∧ R (.dat (.list ((List.range i.toNat).map fun (m : Nat) => .int (m : Int))))
    | .enu a => wpE G n env X a fun r => asD r fun d => ∃ ds, d = .list ds ∧ R (.dat (.list (enuL ds)))
    | .viewT a => wpE G n (env.map thaw) (fun _ => False) a fun r => asB r fun b => R (.dat (.bool b))
    | .zip a b => wpE G n env X a fun r => asD r fun x => wpE G n env X b fun r => asD r fun y => zipW x y fun zs => R (.dat (.list zs))
    | .view a => wpE G n (env.map thaw) (fun _ => False) a fun r => asD r fun d => flatD d = true ∧ R (.dat d)
    | .idxO j b => match env[j]? with
      | some (.own (.list ds)) => wpE G n env X b fun r => asI r fun i => ∃ d, atI ds i = some d ∧ R (.dat d)
      | _ => False
    | .cmp2 o1 o2 a b c => wpE G n env X a fun r => asD r fun x => wpE G n env X b fun r => asD r fun y => cmpW o1 x y fun t => if t = true then wpE G n env X c fun r => asD r fun z => cmpW o2 y z fun u => R (.dat (.bool u)) else R (.dat (.bool false))
    | .sset a => wpE G n env X a fun r => asD r fun d => ssetW d fun z => R (.own z)
    | .dget a b => wpE G n env X a fun r => asD r fun x => wpE G n env X b fun r => asD r fun y => ∃ es, x = .dict es ∧ keyW y fun q => ∃ d, lookK es q = some d ∧ R (.dat d)
    | .get2 a b c => wpE G n env X a fun r => asD r fun x => ∃ es, x = .dict es ∧ wpE G n env X b fun r => asD r fun y => wpE G n env X c fun r => asD r fun z => keyN y fun q => R (.dat ((q.bind (lookK es)).getD z))
    | .enuT a => wpE G n env X a fun r => asD r fun d => ∃ ds, d = .tuple ds ∧ R (.dat (.list (enuL ds)))
end Dr

set_option Elab.async false
set_option linter.all false
set_option maxRecDepth 100000
set_option maxHeartbeats 1000000
namespace Dr
open PySem PySem.Spec PyProof.Rows L2 Cr
theorem asD_mono {r : Sv} {k k' : PyData → Prop} (h : asD r k) (m : ∀ d, k d → k' d) : asD r k' := by
  cases r <;> first | exact m _ h | exact h
theorem asB_is {r : Sv} {k : Bool → Prop} (h : asB r k) : ∃ b, r = .dat (.bool b) ∧ k b := by
  unfold asB at h
  split at h
  · exact ⟨_, rfl, h⟩
  · exact h.elim
theorem asI_is {r : Sv} {k : Int → Prop} (h : asI r k) : ∃ b, r = .dat (.int b) ∧ k b := by
  unfold asI at h
  split at h
  · exact ⟨_, rfl, h⟩
  · exact h.elim
theorem asS_is {r : Sv} {k : List PyData → Prop} (h : asS r k) : ∃ ds, k ds ∧ (asD r fun d => d = .list ds ∨ d = .tuple ds) := by
  unfold asS at h
  split at h
  · exact ⟨_, h, Or.inl rfl⟩
  · exact ⟨_, h, Or.inr rfl⟩
  · exact ⟨_, h, Or.inl rfl⟩
  · exact h.elim
section
variable {X : Cx}
def rInTD (K : PySem.W.Frag) (neg : Bool) : R2 := fun x y H Q => ∃ d ds, Dp K H x d ∧ Dp K H y (.tuple ds) ∧ SeqAt.shaped d = true ∧ SeqAt.shaped (.tuple ds) = true ∧ Q (.bl (neg != ds.any fun z => PyData.eqv z d)) H
theorem op_inTD (hu : X.A.units + 65 < cLine) : OpR X (compareOp .In) (rInTD X.K false) := by
  intro pins s σ H x y v u Q I rx ry h
  obtain ⟨d, ds, hd, he, sd, se, q⟩ := h
  obtain ⟨as, r1⟩ := Dp.reads I d x v hd rx
  obtain ⟨bs, r2⟩ := Dp.reads I (.tuple ds) y u he ry
  exact SeqAt.in_tuple_reads r2 r1 (SeqAt.canLay_of_shaped se) (SeqAt.canLay_of_shaped sd) (room_in_shaped sd hu) ⟨.bl _, H, I, rfl, by simpa using q⟩
theorem op_notInTD (hu : X.A.units + 65 < cLine) : OpR X (compareOp .NotIn) (rInTD X.K true) := by
  intro pins s σ H x y v u Q I rx ry h
  obtain ⟨d, ds, hd, he, sd, se, q⟩ := h
  obtain ⟨as, r1⟩ := Dp.reads I d x v hd rx
  obtain ⟨bs, r2⟩ := Dp.reads I (.tuple ds) y u he ry
  exact SeqAt.notIn_tuple_reads r2 r1 (SeqAt.canLay_of_shaped se) (SeqAt.canLay_of_shaped sd) (room_in_shaped sd hu) ⟨.bl _, H, I, rfl, by simpa using q⟩
end
theorem inD_strs {x : PyData} {ss : List Str} : inD x (ss.map .str) = strIn x ss := by
  unfold inD strIn
  rw [List.any_map]
  cases x with
  | str z =>
    show ss.any _ = ss.any _
    congr 1
  | _ =>
    show ss.any _ = false
    rw [List.any_eq_false]
    intro y _
    exact Bool.false_ne_true
section
variable {ι : Type} {F : ι → Cx} {P : Program} {w : World} {K : PySem.W.Frag} {mg : Str → Option Value} {base : Heap} {N : List Str} {k : Nat} {sc : Scope} {V : Wd} {cA : Str → Value} {wi : L2.WX} {cfg : List Sl} {X : Exc → Prop}

/-! ### operations -/
theorem bin_ok (fm : Fam P w K mg base N k sc F) {op : Operator} {x y : PyData} {R : PyData → Prop} (h : binW op x y R) : Bin F V K (binaryOp op) x y fun s => ∃ z, s = .dat z ∧ R z := by
  have key : ∀ {z : PyData}, B1 F V K (binaryOp op) x y z → R z → Bin F V K (binaryOp op) x y fun s => ∃ z, s = .dat z ∧ R z := fun b r => Bin.some b ⟨_, rfl, r⟩
  unfold binW at h
  split at h
  · exact key b_add h
  · exact key b_sub h
  · exact key (b_mul h.1) h.2
  · exact key (b_mod h.1) h.2
  · exact key (b_div h.1) h.2
  · exact key (b_pow h.1) h.2
  · exact key (b_cat (sz_small h.1)) h.2
  · exact key (b_catT fm (sz_small h.1)) h.2
  · exact key (b_catS (sz_small h.1)) h.2
  · exact key (b_rep (by omega) (by omega) (sz_small h.2.2.1)) h.2.2.2
  · exact key (b_repT fm h.1 h.2.1 h.2.2.1 h.2.2.2.1) h.2.2.2.2
  · exact h.elim
theorem scal_eqs {x y : PyData} (h : scalD x y = true) : ∀ H v u, Dn V K H v x → Dn V K H u y → scal v u = true ∧ decide (v = u) = PyData.eqv x y := by
  cases x <;> cases y <;> first | exact absurd h Bool.false_ne_true | skip
  all_goals (intro H v u hv hu; cases hv; cases hu; refine ⟨rfl, ?_⟩; first | rfl | (simp [PyData.eqv]; done) | (rename_i a b; by_cases e : a = b <;> simp [PyData.eqv, e]))
theorem nn_ok (fm : Fam P w K mg base N k sc F) {x y : PyData} (h : NeOk x y) : B1 F V K (compareOp .Eq) x y (.bool (PyData.eqv x y)) ∧ B1 F V K (compareOp .NotEq) x y (.bool (!PyData.eqv x y)) := by
  rcases h with h | h
  · constructor
    · intro H vx vy ii nx ny Q q
      obtain ⟨h1, h2⟩ := scal_eqs h H vx vy nx ny
      exact ⟨_, fun _ => op_eq, h1, by rw [h2]; exact q _ H _ (Wx.refl V H) ii (Dn.dv (.bl _)) rfl⟩
    · intro H vx vy ii nx ny Q q
      obtain ⟨h1, h2⟩ := scal_eqs h H vx vy nx ny
      exact ⟨_, fun _ => op_ne, h1, by rw [h2]; exact q _ H _ (Wx.refl V H) ii (Dn.dv (.bl _)) rfl⟩
  · exact ⟨n_eq fm h.1 h.2, n_ne fm h.1 h.2⟩
theorem eq_ok (fm : Fam P w K mg base N k sc F) {x y : PyData} (h : EqOk x y) : B1 F V K (compareOp .Eq) x y (.bool (PyData.eqv x y)) := by
  rcases h with h | ⟨ds, rfl, rfl⟩
  · exact (nn_ok fm h).1
  · have e : PyData.eqv (.list ds) (.list []) = ds.isEmpty := by cases ds <;> rfl
    rw [e]
    exact b_eqNil fm
theorem in_nice (fm : Fam P w K mg base N k sc F) {x s : PyData} {ds : List PyData} (hd : s = .list ds ∨ s = .tuple ds) (h : InOk x ds) :
    B1 F V K (compareOp .In) x s (.bool (inD x ds)) ∧ B1 F V K (compareOp .NotIn) x s (.bool (!inD x ds)) := by
  rcases h with h | h
  · exact ⟨in_seq fm hd h.1 h.2, nin_seq fm hd h.1 h.2⟩
  rcases hd with rfl | rfl
  · exact ⟨fun H vx vy ii dx dy Q q => ⟨rInD K, fun z => by have := op_inD (X := F z) (by have := (fm.ro z).un; omega); rwa [fm.kk z] at this, x, ds, dx.dp h.1.nd, dy.dp h.2.nd, h.1.shaped, h.2.shaped, q _ H _ (Wx.refl V H) ii (Dn.dv (.bl _)) rfl⟩, b_notInL fm h.1 h.2⟩
  · have nt : Nice (.tuple ds) 20 := ⟨h.2.lay, h.2.nd, h.2.dp⟩
    refine ⟨fun H vx vy ii dx dy Q q => ⟨rInTD K false, fun z => by have := op_inTD (X := F z) (by have := (fm.ro z).un; omega); rwa [fm.kk z] at this, x, ds, dx.dp h.1.nd, dy.dp nt.nd, h.1.shaped, nt.shaped, by simpa [inD] using q _ H _ (Wx.refl V H) ii (Dn.dv (.bl _)) rfl⟩, fun H vx vy ii dx dy Q q => ⟨rInTD K true, fun z => by have := op_notInTD (X := F z) (by have := (fm.ro z).un; omega); rwa [fm.kk z] at this, x, ds, dx.dp h.1.nd, dy.dp nt.nd, h.1.shaped, nt.shaped, by simpa [inD] using q _ H _ (Wx.refl V H) ii (Dn.dv (.bl _)) rfl⟩⟩
theorem in_tup (fm : Fam P w K mg base N k sc F) (hs : (base.get? sysModules).isSome = true) {x : PyData} {ds : List PyData} (h : InOkT x ds) :
    B1 F V K (compareOp .In) x (.tuple ds) (.bool (inD x ds)) ∧ B1 F V K (compareOp .NotIn) x (.tuple ds) (.bool (!inD x ds)) := by
  rcases h with h | ⟨h, ss, rfl⟩
  · exact in_nice fm (Or.inr rfl) h
  · rw [inD_strs]
    exact ⟨b_inSt fm hs h, b_notInSt fm hs h⟩
theorem cmp_ok (fm : Fam P w K mg base N k sc F) (hs : (base.get? sysModules).isSome = true) {op : CmpOp} {x y : PyData} {R : Bool → Prop} (h : cmpW op x y R) : Bin F V K (compareOp op) x y fun s => ∃ z, s = .dat (.bool z) ∧ R z := by
  have key : ∀ {z : Bool}, B1 F V K (compareOp op) x y (.bool z) → R z → Bin F V K (compareOp op) x y fun s => ∃ z, s = .dat (.bool z) ∧ R z := fun b r => Bin.some b ⟨_, rfl, r⟩
  unfold cmpW at h
  split at h
  · exact key b_lt h
  · exact key b_le h
  · exact key b_gt h
  · exact key b_ge h
  · exact key b_eqI h
  · exact key b_neI h
  · exact key b_eqS h
  · exact key b_neS h
  · exact key (eq_ok fm h.1) h.2
  · exact key (nn_ok fm h.1).2 h.2
  · exact key b_isN h
  · exact key b_notN h
  · intro H vx vy ii dx dy Q q
    cases dx
    cases dy
    exact ⟨_, fun _ => op_is_bl, _, _, rfl, rfl, q _ H _ (Wx.refl V H) ii (Dn.dv (.bl _)) ⟨_, rfl, h⟩⟩
  · intro H vx vy ii dx dy Q q
    cases dx
    cases dy
    exact ⟨_, fun _ => op_isnot_bl, _, _, rfl, rfl, q _ H _ (Wx.refl V H) ii (Dn.dv (.bl _)) ⟨_, rfl, h⟩⟩
  · exact key (in_nice fm (Or.inl rfl) h.1).1 h.2
  · exact key (in_nice fm (Or.inl rfl) h.1).2 h.2
  · exact key (in_tup fm hs h.1).1 h.2
  · exact key (in_tup fm hs h.1).2 h.2
  · obtain ⟨c, rfl, h⟩ := h
    exact key b_inSign h
  · obtain ⟨c, rfl, h⟩ := h
    exact key b_ninSign h
  · exact h.elim
theorem cmpW_mono {op : CmpOp} {x y : PyData} {k k' : Bool → Prop} (h : cmpW op x y k) (m : ∀ b, k b → k' b) : cmpW op x y k' := by
  unfold cmpW at h ⊢
  split at h <;> first | exact m _ h | exact ⟨h.1, m _ h.2⟩ | (obtain ⟨c, e, h⟩ := h; exact ⟨c, e, m _ h⟩) | exact h
theorem idx_ok (fm : Fam P w K mg base N k sc F) {x y : PyData} {R : PyData → Prop} (h : idxW x y R) : Idx F V K x y fun s => ∃ z, s = .dat z ∧ R z := by
  have key : ∀ {z : PyData}, Idx F V K x y (fun s => s = .dat z) → R z → Idx F V K x y fun s => ∃ z, s = .dat z ∧ R z := fun b r H vx vy ii dx dy Q q => b H vx vy ii dx dy Q fun v H' s x' i' d e => q v H' s x' i' d ⟨_, e, r⟩
  unfold idxW at h
  split at h
  · obtain ⟨d, e, r⟩ := h
    exact key (i_list fm e) r
  · obtain ⟨d, e, r⟩ := h
    exact key (i_tup fm e) r
  · exact h.elim
def biName : Bi → Str
  | .len => "len" | .int => "int" | .abs => "abs" | .max => "max" | .min => "min" | .repr => "repr" | .tuple => "tuple" | .list => "list" | .sum => "sum" | .str => "str" | .any => "any" | .all => "all"
def biVal : Bi → Value
  | .len => .builtin "len" | .int => .type "int" | .abs => .builtin "abs" | .max => .builtin "max" | .min => .builtin "min" | .repr => .builtin "repr" | .tuple => .type "tuple" | .list => .type "list" | .sum => .builtin "sum" | .str => .type "str" | .any => .builtin "any" | .all => .builtin "all"
theorem fold_ok (fm : Fam P w K mg base N k sc F) {f : Bi} {xs : List PyData} {B : PyData → Prop} (h : foldW f xs B) : Cal F V K (biVal f) [.list xs] fun s => ∃ z, s = .dat z ∧ B z := by
  intro H vs ii dn Q q
  cases dn with
  | cons a t =>
    cases t
    cases a with
    | lst la da =>
      cases f <;> first | exact h.elim | skip
      · obtain ⟨ns, rfl, hl, hk⟩ := h
        have e := dn_ints da
        subst e
        exact ⟨rMax K, fun z => by have := cr_max (X := F z) (fm.ca z); rwa [fm.kk z] at this, _, ns, rfl, la.sq, hl, fun m h1 h2 => q _ H _ (Wx.refl V H) ii (Dn.dv (.int _)) ⟨_, rfl, hk m h1 h2⟩⟩
      · obtain ⟨ns, rfl, hl, hk⟩ := h
        have e := dn_ints da
        subst e
        exact ⟨rMin K, fun z => by have := cr_min (X := F z) (fm.ca z); rwa [fm.kk z] at this, _, ns, rfl, la.sq, hl, fun m h1 h2 => q _ H _ (Wx.refl V H) ii (Dn.dv (.int _)) ⟨_, rfl, hk m h1 h2⟩⟩
      · obtain ⟨ns, rfl, hk⟩ := h
        have e := dn_ints da
        subst e
        exact ⟨rSum K, fun z => by have := cr_sum (X := F z) (fm.ca z); rwa [fm.kk z] at this, _, ns, rfl, la.sq, q _ H _ (Wx.refl V H) ii (Dn.dv (.int _)) ⟨_, rfl, hk⟩⟩
      · obtain ⟨bs, rfl, hk⟩ := h
        have e := dn_bools da
        subst e
        exact ⟨rAny K, fun z => by have := cr_any (X := F z) (fm.ca z); rwa [fm.kk z] at this, _, bs, rfl, la.sq, q _ H _ (Wx.refl V H) ii (Dn.dv (.bl _)) ⟨_, rfl, hk⟩⟩
      · obtain ⟨bs, rfl, hk⟩ := h
        have e := dn_bools da
        subst e
        exact ⟨rAll K, fun z => by have := cr_all (X := F z) (fm.ca z); rwa [fm.kk z] at this, _, bs, rfl, la.sq, q _ H _ (Wx.refl V H) ii (Dn.dv (.bl _)) ⟨_, rfl, hk⟩⟩
theorem bi_ok (fm : Fam P w K mg base N k sc F) (hs : (base.get? sysModules).isSome = true) {f : Bi} {ds : List PyData} {R : PyData → Prop} (h : biW f ds R) : Cal F V K (biVal f) ds fun s => ∃ z, s = .dat z ∧ R z := by
  have key : ∀ {z : PyData}, C1 F V K (biVal f) ds z → R z → Cal F V K (biVal f) ds fun s => ∃ z, s = .dat z ∧ R z := fun b r => Cal.some b ⟨_, rfl, r⟩
  unfold biW at h
  split at h
  · exact key (c_lenL fm) h
  · exact key (c_lenT fm) h
  · exact key (c_lenS (sz_small h.1)) h.2
  · exact key c_int h
  · exact key c_intB h
  · exact key c_abs h
  · exact key (c_max fm) h
  · exact key (c_min fm) h
  · exact key (c_reprO fm hs h.1) h.2
  · exact key (c_tupL fm) h
  · exact key (c_listL fm) h
  · exact key (c_listT fm) h
  · exact fold_ok fm h
  · exact h.elim
end
end Dr

set_option Elab.async false
set_option linter.all false
set_option maxRecDepth 100000
set_option maxHeartbeats 1000000
namespace Dr
open PySem PySem.Spec PyProof.Rows L2 Cr

/-! ## rules of expressions -/
section
variable {ι : Type} {F : ι → Cx} {P : Program} {w : World} {K : PySem.W.Frag} {mg : Str → Option Value} {base : Heap} {N : List Str} {k : Nat} {sc : Scope} {V : Wd} {cA : Str → Value} {wi : L2.WX} {cfg : List Sl} {X : Exc → Prop} {R : Sv → Prop}
theorem es_c {e : Expr} {v : L2.V} {d : PyData} (h : ∀ i, PE (F i) e (tC v)) (dn : ∀ W H, Dn W K H v d) (r : R (.dat d)) : EvS F V K cA wi e cfg R X := fun σ H i sd Q q _ => ⟨tC v, h, q v H (.dat d) (Wx.refl V H) i (dn V H) r⟩
theorem es_slot (fm : Fam P w K mg base N k sc F) {x : Str} {pos : Pos} {s : Sv} {j : Nat} (hN : N[j]? = some x) (he : (cfg.map absS)[j]? = some s) (r : match s with | .dat d => R (.dat d) | .raw v => R (.raw v) | _ => False) (hv : visB sc x = true) (hd : (x == ("__debug__" : Str)) = false) (hc : (x == ("__classdict__" : Str)) = false) :
    EvS F V K cA wi (.Name x pos) cfg R X := by
  rw [List.getElem?_map] at he
  cases hj : cfg[j]? with
  | none => rw [hj] at he; exact nomatch he
  | some z =>
    rw [hj] at he
    cases he
    intro σ H i sd Q q _
    obtain ⟨o, ho, dv⟩ := sd.get hj
    cases z with
    | dat d =>
      obtain ⟨v, rfl, dn⟩ := dv
      exact ⟨tVar j, fun z => pe_var (by rw [fm.nn z]; exact hN) (vis_of (fm.es z) hv) hd hc, v, ho, q v H (.dat d) (Wx.refl V H) i dn r⟩
    | raw u =>
      have dv : o = some u := dv
      subst dv
      exact ⟨tVar j, fun z => pe_var (by rw [fm.nn z]; exact hN) (vis_of (fm.es z) hv) hd hc, u, ho, q u H (.raw u) (Wx.refl V H) i rfl r⟩
    | any => exact r.elim
    | ml _ _ _ => exact r.elim
    | od _ _ _ => exact r.elim
theorem es_tup {es : List Expr} {k1 pos} (h : EvL F V K cA wi es cfg (fun ds => ds.length ≤ 16777216 ∧ R (.dat (.tuple ds))) X) : EvS F V K cA wi (.Tuple es k1 pos) cfg R X := by
  intro σ H i sd Q q x
  refine ⟨tTup (WA F es), fun z => pe_tup (wa_pa z), ?_⟩
  refine h σ H i sd _ (fun vs H1 ds x1 i1 dn hd => ?_) x
  refine ⟨by rw [dn.length]; exact sz_small hd.1, fun p hp => ?_⟩
  obtain ⟨x2, i2, d2⟩ := new_tup i1 hp dn
  exact q _ _ (.dat _) (x1.trans x2) i2 d2 hd.2
theorem fresh_M {H : Hp} {p : Addr} (i : V.I H) (hp : H p = none) : ¬ V.M p := fun m => V.has H p i m hp
theorem all_opn {H : Hp} {p : Addr} {vs : List L2.V} {ds : List PyData} (hp : H p = none) (dn : DnAll V K H vs ds) : DnAll (V.opn p) K H vs ds := DnAll.to (W := V) (W' := V.opn p) (fun a n m => m.elim id fun e => absurd (e ▸ hp) n) dn
theorem new_own {H H1 : Hp} {p : Addr} {vs : List L2.V} {ds : List PyData} (x1 : Wx V H H1) (i : V.I H1) (hp : H1 p = none) (dn : DnAll V K H1 vs ds) : Wx V H (upd H1 p (.lst vs)) ∧ V.I (upd H1 p (.lst vs)) ∧ Rv V K H1 (upd H1 p (.lst vs)) (.ref p) (.own (.list ds)) := by
  obtain ⟨n, x, i'⟩ := V.new (o := .lst vs) i hp
  refine ⟨x1.trans x, i', p, rfl, hp, n, .lst vs, upd_same, ?_⟩
  exact DnAll.mono (W := V.opn p) (fun a o m h => Xt.new hp a o h) (all_opn hp dn)
theorem es_lst {es : List Expr} {pos} (h : EvL F V K cA wi es cfg (fun ds => ds.length ≤ 16777216 ∧ R (.own (.list ds))) X) : EvS F V K cA wi (.List es pos) cfg R X := by
  intro σ H i sd Q q x
  refine ⟨tLst (WA F es), fun z => pe_lst (wa_pa z), ?_⟩
  refine h σ H i sd _ (fun vs H1 ds x1 i1 dn hd => ?_) x
  refine ⟨by rw [dn.length]; exact sz_small hd.1, fun p hp => ?_⟩
  obtain ⟨x2, i2, rv⟩ := new_own x1 i1 hp dn
  exact q _ _ (.own _) x2 i2 (rv.back x1 i) hd.2
theorem es_dct0 {pos : Pos} (r : R (.own (.dict []))) : EvS F V K cA wi (.Dict [] [] pos) cfg R X := by
  intro σ H i sd Q q _
  refine ⟨_, fun z => pe_dnewK, fun p hp => ?_⟩
  obtain ⟨n, x, i'⟩ := V.new (o := .dK []) i hp
  exact q _ _ (.own (.dict [])) x i' ⟨p, rfl, hp, n, .dK [], upd_same, .nil⟩ r
/-- two things one after the other -/
theorem two_all {a b : Expr} {Ra : Sv → Prop} {k2 : PyData → PyData → Prop} (ha : EvS F V K cA wi a cfg Ra X) (m : ∀ r, Ra r → asD r fun x => EvS F V K cA wi b cfg (fun r => asD r fun y => k2 x y) X) (σ : L2.St) (H : Hp) (i : V.I H) (sd : Sd V K H σ cfg) (Q : VK → Prop) (T : L2.V → L2.V → Hp → Prop)
    (q : ∀ v u H' x y, Wx V H H' → V.I H' → Dn V K H' v x → Dn V K H' u y → k2 x y → T v u H') (xo : XOk V K cA wi X σ H) : WE F a σ H fun v H1 => WE F b σ H1 fun u H2 => T v u H2 := by
  refine ha σ H i sd _ (fun v H1 r x1 i1 rv hr => ?_) xo
  obtain ⟨d, hd, dn⟩ := asD_dn rv (m r hr)
  refine hd σ H1 i1 (sd.mono x1) _ (fun u H2 r2 x2 i2 rv2 hr2 => ?_) (xo.mono x1)
  obtain ⟨y, hy, dy⟩ := asD_dn rv2 hr2
  exact q v u H2 d y (x1.trans x2) i2 (dn.mono x2) dy hy
theorem es_bin (fm : Fam P w K mg base N k sc F) {a b : Expr} {op : Operator} {pos : Pos} {Ra : Sv → Prop} (ha : EvS F V K cA wi a cfg Ra X) (m : ∀ r, Ra r → asD r fun x => EvS F V K cA wi b cfg (fun r => asD r fun y => binW op x y fun z => R (.dat z)) X) : EvS F V K cA wi (.BinOp a op b pos) cfg R X := by
  intro σ H i sd Q q x
  refine ⟨_, fun z => pe_op (wo_op z) (we_pe z) (we_pe z), ?_⟩
  refine two_all ha m σ H i sd (fun _ => True) _ (fun v u H' x y x1 i1 dx dy h => ?_) x
  refine bin_ok fm h H' v u i1 dx dy Q fun v' H3 r x3 i3 d3 h3 => ?_
  obtain ⟨z, rfl, hz⟩ := h3
  obtain ⟨_, e, dn⟩ := d3
  cases e
  exact q v' H3 (.dat z) (x1.trans x3) i3 dn hz
theorem es_cmp (fm : Fam P w K mg base N k sc F) (hs : (base.get? sysModules).isSome = true) {a b : Expr} {op : CmpOp} {pos : Pos} {Ra : Sv → Prop} (ha : EvS F V K cA wi a cfg Ra X) (m : ∀ r, Ra r → asD r fun x => EvS F V K cA wi b cfg (fun r => asD r fun y => cmpW op x y fun z => R (.dat (.bool z))) X)
    (hm : behindInMarks op b = false) : EvS F V K cA wi (.Compare a [op] [b] pos) cfg R X := by
  intro σ H i sd Q q x
  refine ⟨_, fun z => pe_cmpR (wo_op z) (we_pe z) (we_pe z) hm, ?_⟩
  refine two_all ha m σ H i sd (fun _ => True) _ (fun v u H' x y x1 i1 dx dy h => ?_) x
  refine cmp_ok fm hs h H' v u i1 dx dy Q fun v' H3 r x3 i3 d3 h3 => ?_
  obtain ⟨z, rfl, hz⟩ := h3
  obtain ⟨_, e, dn⟩ := d3
  cases e
  exact q v' H3 (.dat (.bool z)) (x1.trans x3) i3 dn hz
theorem eb_cmp (fm : Fam P w K mg base N k sc F) (hs : (base.get? sysModules).isSome = true) {a b : Expr} {op : CmpOp} {pos : Pos} {Ra : Sv → Prop} {B : Bool → Prop} (ha : EvS F V K cA wi a cfg Ra X) (m : ∀ r, Ra r → asD r fun x => EvS F V K cA wi b cfg (fun r => asD r fun y => cmpW op x y B) X)
    (hm : behindInMarks op b = false) : EvB F V K cA wi (.Compare a [op] [b] pos) cfg B X := by
  intro σ H i sd Q q x
  refine ⟨_, fun z => pt_cmpR (wo_op z) (we_pe z) (we_pe z) hm, ?_⟩
  refine two_all ha m σ H i sd (fun _ => True) _ (fun v u H' x y x1 i1 dx dy h => ?_) x
  refine cmp_ok fm hs h H' v u i1 dx dy _ fun v' H3 r x3 i3 d3 h3 => ?_
  obtain ⟨z, rfl, hz⟩ := h3
  obtain ⟨_, e, dn⟩ := d3
  cases e
  cases dn
  exact ⟨z, rfl, q z H3 (x1.trans x3) i3 hz⟩
theorem eb_val {e : Expr} {B : Bool → Prop} (h : EvS F V K cA wi e cfg (fun r => asB r B) X) (ht : ∀ i, ∀ whole, isTrue e (F i).env whole = (do let v ← whole; standAt e.pos; holding [v] (truthy v))) : EvB F V K cA wi e cfg B X := by
  intro σ H i sd Q q x
  refine ⟨_, fun z => pt_val (we_pe z) (ht z), h σ H i sd _ (fun v H' r x' i' d hr => ?_) x⟩
  obtain ⟨b, rfl, hb⟩ := asB_is hr
  have d : Dn V K H' v (.bool b) := d
  cases d
  exact ⟨b, rfl, q b H' x' i' hb⟩
theorem es_not {a : Expr} {pos : Pos} (h : EvS F V K cA wi a cfg (fun r => asB r fun b => R (.dat (.bool (!b)))) X) : EvS F V K cA wi (.UnaryOp .Not a pos) cfg R X := by
  intro σ H i sd Q q x
  refine ⟨tNotV (WE F a), fun z => pe_not (we_pe z), ?_⟩
  refine h σ H i sd _ (fun v H1 r x1 i1 d1 h1 => ?_) x
  obtain ⟨b, rfl, hb⟩ := asB_is h1
  have d1 : Dn V K H1 v (.bool b) := d1
  cases d1
  exact ⟨b, rfl, q _ H1 (.dat (.bool (!b))) x1 i1 (.bl _) hb⟩
theorem es_neg {a : Expr} {pos : Pos} (h : EvS F V K cA wi a cfg (fun r => asI r fun b => R (.dat (.int (-b)))) X) : EvS F V K cA wi (.UnaryOp .USub a pos) cfg R X := by
  intro σ H i sd Q q x
  refine ⟨tUn _ (WE F a), fun z => pe_un un_neg (we_pe z), ?_⟩
  refine h σ H i sd _ (fun v H1 r x1 i1 d1 h1 => ?_) x
  obtain ⟨b, rfl, hb⟩ := asI_is h1
  have d1 : Dn V K H1 v (.int b) := d1
  cases d1
  exact ⟨b, rfl, q _ H1 (.dat (.int (-b))) x1 i1 (.int _) hb⟩
theorem eb_not {a : Expr} {pos : Pos} {B : Bool → Prop} (h : EvB F V K cA wi a cfg (fun b => B (!b)) X) : EvB F V K cA wi (.UnaryOp .Not a pos) cfg B X := by
  intro σ H i sd Q q x
  refine ⟨tNot (WT F a), fun z => pt_not (wt_pt z), ?_⟩
  exact h σ H i sd _ (fun t H1 x1 i1 h1 => q _ H1 x1 i1 h1) x
theorem es_if {c a b : Expr} {pos : Pos} (h : EvB F V K cA wi c cfg (fun t => if t = true then EvS F V K cA wi a cfg R X else EvS F V K cA wi b cfg R X) X) : EvS F V K cA wi (.IfExp c a b pos) cfg R X := by
  intro σ H i sd Q q x
  refine ⟨tIf (WT F c) (WE F a) (WE F b), fun z => pe_ifExp (wt_pt z) (we_pe z) (we_pe z), ?_⟩
  refine h σ H i sd _ (fun t H1 x1 i1 h1 => ?_) x
  cases t with
  | true => exact (show EvS F V K cA wi a cfg R X by simpa only [if_true] using h1) σ H1 i1 (sd.mono x1) Q (fun v H' r x i' d h => q v H' r (x1.trans x) i' (d.back x1 i) h) (x.mono x1)
  | false => exact (show EvS F V K cA wi b cfg R X by simpa only [Bool.false_eq_true, if_false] using h1) σ H1 i1 (sd.mono x1) Q (fun v H' r x i' d h => q v H' r (x1.trans x) i' (d.back x1 i) h) (x.mono x1)
/-! and, or -/
theorem es_bop1 {a : Expr} {op} {pos : Pos} (h : EvS F V K cA wi a cfg R X) : EvS F V K cA wi (.BoolOp op [a] pos) cfg R X := fun σ H i sd Q q x => ⟨WE F a, fun z => pe_one (we_pe z), h σ H i sd Q q x⟩
theorem es_and {a b : Expr} {rest : List Expr} {pos : Pos} (h : EvS F V K cA wi a cfg (fun r => asB r fun t => if t = true then EvS F V K cA wi (.BoolOp .And (b :: rest) pos) cfg R X else R (.dat (.bool false))) X) : EvS F V K cA wi (.BoolOp .And (a :: b :: rest) pos) cfg R X := fun σ H i sd Q q x => by
  refine ⟨tAndV (WE F a) (WE F (.BoolOp .And (b :: rest) pos)), fun z => pe_and (we_pe z) (we_pe z), ?_⟩
  refine h σ H i sd _ (fun v H1 r x1 i1 d1 h1 => ?_) x
  obtain ⟨c, rfl, hc⟩ := asB_is h1
  have d1 : Dn V K H1 v (.bool c) := d1
  cases d1
  refine ⟨c, rfl, ?_⟩
  cases c with
  | true => exact (show EvS F V K cA wi (.BoolOp .And (b :: rest) pos) cfg R X by simpa only [if_true] using hc) σ H1 i1 (sd.mono x1) Q (fun v H' r x i' d h => q v H' r (x1.trans x) i' (d.back x1 i) h) (x.mono x1)
  | false => exact q _ H1 (.dat (.bool false)) x1 i1 (.bl false) (by simpa only [Bool.false_eq_true, if_false] using hc)
theorem es_or {a b : Expr} {rest : List Expr} {pos : Pos} (h : EvS F V K cA wi a cfg (fun r => asB r fun t => if t = true then R (.dat (.bool true)) else EvS F V K cA wi (.BoolOp .Or (b :: rest) pos) cfg R X) X) : EvS F V K cA wi (.BoolOp .Or (a :: b :: rest) pos) cfg R X := fun σ H i sd Q q x => by
  refine ⟨tOrV (WE F a) (WE F (.BoolOp .Or (b :: rest) pos)), fun z => pe_or (we_pe z) (we_pe z), ?_⟩
  refine h σ H i sd _ (fun v H1 r x1 i1 d1 h1 => ?_) x
  obtain ⟨c, rfl, hc⟩ := asB_is h1
  have d1 : Dn V K H1 v (.bool c) := d1
  cases d1
  refine ⟨c, rfl, ?_⟩
  cases c with
  | false => exact (show EvS F V K cA wi (.BoolOp .Or (b :: rest) pos) cfg R X by simpa only [Bool.false_eq_true, if_false] using hc) σ H1 i1 (sd.mono x1) Q (fun v H' r x i' d h => q v H' r (x1.trans x) i' (d.back x1 i) h) (x.mono x1)
  | true => exact q _ H1 (.dat (.bool true)) x1 i1 (.bl true) (by simpa only [if_true] using hc)
theorem eb_w {a : Expr} {B : Bool → Prop} (h : EvWs F V K cA wi a cfg B X) : EvB F V K cA wi a cfg B X := fun σ H i sd Q q x => by
  obtain ⟨t, ht, hq⟩ := h σ H i sd Q q x
  exact ⟨t, fun z => (ht z).pt, hq⟩
theorem ew_and1 {a : Expr} {pos : Pos} {B : Bool → Prop} (h : EvB F V K cA wi a cfg B X) : EvWs F V K cA wi (.BoolOp .And [a] pos) cfg B X := fun σ H i sd Q q x => ⟨WT F a, fun z => pw_and1 (wt_pt z), h σ H i sd Q q x⟩
theorem ew_or1 {a : Expr} {pos : Pos} {B : Bool → Prop} (h : EvB F V K cA wi a cfg B X) : EvWs F V K cA wi (.BoolOp .Or [a] pos) cfg B X := fun σ H i sd Q q x => ⟨WT F a, fun z => pw_or1 (wt_pt z), h σ H i sd Q q x⟩
theorem ew_and {a b : Expr} {rest : List Expr} {pos : Pos} {B : Bool → Prop} (h : EvB F V K cA wi a cfg (fun t => if t = true then EvWs F V K cA wi (.BoolOp .And (b :: rest) pos) cfg B X else B false) X) : EvWs F V K cA wi (.BoolOp .And (a :: b :: rest) pos) cfg B X := fun σ H i sd Q q x => by
  refine ⟨tAnd (WT F a) (WW F (.BoolOp .And (b :: rest) pos)), fun z => pw_and (wt_pt z) (ww_pw z), ?_⟩
  refine h σ H i sd _ (fun t H1 x1 i1 h1 => ?_) x
  cases t with
  | true => exact (show EvWs F V K cA wi (.BoolOp .And (b :: rest) pos) cfg B X by simpa only [if_true] using h1) σ H1 i1 (sd.mono x1) Q (fun c H' x i' h => q c H' (x1.trans x) i' h) (x.mono x1)
  | false => exact q false H1 x1 i1 (by simpa only [Bool.false_eq_true, if_false] using h1)
theorem ew_or {a b : Expr} {rest : List Expr} {pos : Pos} {B : Bool → Prop} (h : EvB F V K cA wi a cfg (fun t => if t = true then B true else EvWs F V K cA wi (.BoolOp .Or (b :: rest) pos) cfg B X) X) : EvWs F V K cA wi (.BoolOp .Or (a :: b :: rest) pos) cfg B X := fun σ H i sd Q q x => by
  refine ⟨tOr (WT F a) (WW F (.BoolOp .Or (b :: rest) pos)), fun z => pw_or (wt_pt z) (ww_pw z), ?_⟩
  refine h σ H i sd _ (fun t H1 x1 i1 h1 => ?_) x
  cases t with
  | false => exact (show EvWs F V K cA wi (.BoolOp .Or (b :: rest) pos) cfg B X by simpa only [Bool.false_eq_true, if_false] using h1) σ H1 i1 (sd.mono x1) Q (fun c H' x i' h => q c H' (x1.trans x) i' h) (x.mono x1)
  | true => exact q true H1 x1 i1 (by simpa only [if_true] using h1)
/-! subscripts, slices -/
theorem es_idx (fm : Fam P w K mg base N k sc F) {a b : Expr} {pos : Pos} {Ra : Sv → Prop} (ha : EvS F V K cA wi a cfg Ra X) (m : ∀ r, Ra r → asD r fun x => EvS F V K cA wi b cfg (fun r => asD r fun y => idxW x y fun z => R (.dat z)) X) (hp : PlainIx b) : EvS F V K cA wi (.Subscript a b pos) cfg R X := by
  intro σ H i sd Q q x
  refine ⟨tOp (WX F) (WE F a) (WE F b), fun z => pe_ix (wx_ix z) (we_pe z) (we_pe z) hp, ?_⟩
  refine two_all ha m σ H i sd (fun _ => True) _ (fun v u H' x y x1 i1 dx dy h => ?_) x
  refine idx_ok fm h H' v u i1 dx dy Q fun v' H3 r x3 i3 d3 h3 => ?_
  obtain ⟨z, rfl, hz⟩ := h3
  obtain ⟨_, e, dn⟩ := d3
  cases e
  exact q v' H3 (.dat z) (x1.trans x3) i3 dn hz
def WOp (F : ι → Cx) (e : Option Expr) : TO := fun σ H Q => ∃ t, (∀ i, PO (F i) e t) ∧ t σ H Q
theorem wo_po {e : Option Expr} (i : ι) : PO (F i) e (WOp F e) := ⟨fun pins s σ H Q I h => by
  obtain ⟨t, ht, q⟩ := h
  exact (ht i).run pins s σ H Q I q⟩
def EvOs (F : ι → Cx) (V : Wd) (K : PySem.W.Frag) (cA : Str → Value) (wi : L2.WX) (e : Option Expr) (cfg : List Sl) (B : Option Int → Prop) (X : Exc → Prop) : Prop :=
  ∀ (σ : L2.St) (H : Hp), V.I H → Sd V K H σ cfg → ∀ Q : Option Int → Hp → Prop, (∀ o H', Wx V H H' → V.I H' → B o → Q o H') → XOk V K cA wi X σ H → WOp F e σ H Q
theorem eo_none {B : Option Int → Prop} (h : B none) : EvOs F V K cA wi none cfg B X := fun σ H i sd Q q _ => ⟨tNoPart, fun _ => po_none, q none H (Wx.refl V H) i h⟩
theorem eo_some {e : Expr} {B : Option Int → Prop} (h : EvS F V K cA wi e cfg (fun r => asI r fun i => B (some i)) X) : EvOs F V K cA wi (some e) cfg B X := fun σ H i sd Q q x => by
  refine ⟨tPart (WE F e), fun z => po_some (we_pe z), ?_⟩
  refine h σ H i sd _ (fun v H1 r x1 i1 d1 h1 => ?_) x
  obtain ⟨n, rfl, hn⟩ := asI_is h1
  have d1 : Dn V K H1 v (.int n) := d1
  cases d1
  exact ⟨n, rfl, q _ H1 x1 i1 hn⟩
theorem cut_whole {H : Hp} {vs : List L2.V} {ds : List PyData} {l h : Option Int} (rr : DnAll V K H vs ds) (whole : HT.sIx vs.length 0 l = 0 ∧ HT.sIx vs.length vs.length h = vs.length) : Cr.cutD ds l h = ds := by
  unfold Cr.cutD
  rw [rr.length] at whole
  rw [whole.1, whole.2, List.drop_zero, Nat.sub_zero, List.take_length]
theorem es_cut (fm : Fam P w K mg base N k sc F) {a : Expr} {lo hi : Option Expr} {p1 pos : Pos} {Ra : Sv → Prop} (ha : EvS F V K cA wi a cfg Ra X) (m : ∀ r, Ra r → asD r fun x => EvOs F V K cA wi lo cfg (fun l => EvOs F V K cA wi hi cfg (fun h => cutW x l h fun z => R (.dat z)) X) X) :
    EvS F V K cA wi (.Subscript a (.Slice lo hi none p1) pos) cfg R X := by
  intro σ H i sd Q q x
  refine ⟨tSl (fun x lo hi H Q => rSlL K x lo hi H Q ∨ rSlA K x lo hi H Q) (WE F a) (WOp F lo) (WOp F hi), fun z => pe_slice (SlR.or (by have := sl_list (X := F z); rwa [fm.kk z] at this) (by have := sl_tupA (X := F z); rwa [fm.kk z] at this)) (we_pe z) (wo_po z) (wo_po z), ?_⟩
  refine ha σ H i sd _ (fun v H1 r x1 i1 rv hr => ?_) x
  obtain ⟨d, hd, dn⟩ := asD_dn rv (m r hr)
  refine hd σ H1 i1 (sd.mono x1) _ (fun l H2 x2 i2 h2 => ?_) (x.mono x1)
  refine h2 σ H2 i2 (sd.mono (x1.trans x2)) _ (fun h H3 x3 i3 h3 => ?_) (x.mono (x1.trans x2))
  have dn := dn.mono (x2.trans x3)
  have x13 := (x1.trans x2).trans x3
  unfold cutW at h3
  split at h3
  · cases dn with
    | lst la rr =>
      refine Or.inl ⟨_, _, rfl, la.sq, fun p hp => ?_⟩
      obtain ⟨x4, i4, d4⟩ := new_lst i3 hp (cut_dn (lo := l) (hi := h) rr)
      exact q _ _ (.dat _) (x13.trans x4) i4 d4 h3
  · cases dn with
    | tup ta rr =>
      refine Or.inr ⟨_, _, rfl, ta.sq, fun whole => ?_, fun _ p hp => ?_⟩
      · refine q _ _ (.dat _) x13 i3 ?_ h3
        rw [cut_whole rr whole]
        exact .tup ta rr
      · obtain ⟨x4, i4, d4⟩ := new_tup i3 hp (cut_dn (lo := l) (hi := h) rr)
        exact q _ _ (.dat _) (x13.trans x4) i4 d4 h3
  · exact h3.elim
end
end Dr

set_option Elab.async false
set_option linter.all false
set_option maxRecDepth 100000
set_option maxHeartbeats 1000000
namespace Dr
open PySem PySem.Spec PyProof.Rows L2 Cr

/-! ## calls, comprehensions, walks -/
def bltNames : List Str := ["len", "int", "abs", "max", "min", "repr", "tuple", "list", "sum", "str", "any", "all", "isinstance", "range", "enumerate", "zip", "sorted", "set", "bool", "dict"]
def MgOk (mg : Str → Option Value) : Prop := ∀ x ∈ bltNames, mg x = none
def PotArg (W : Wd) (c : Ctr) (vs us : List L2.V) : Prop := if c.pot = true then ∃ p q ns, vs = .ref p :: us ∧ Draws W p q ns else vs = us
/-- a contract as a promise -/
def spC (K : PySem.W.Frag) (cA : Str → Value) (c : Ctr) : Sp := fun vs H Q E => ∃ (W : Wd) (us : List L2.V) (ds : List PyData) (R : Sv → Prop) (X : Exc → Prop), PotArg W c vs us ∧ W.I H ∧ DnAll W K H us ds ∧ vs.length = c.ps.length ∧ c.ct ds R X ∧
  (∀ v H' r, Wx W H H' → W.I H' → Rv W K H H' v r → R r → Q v H') ∧ ∀ x cls d H', X x → IsXc cA W K H' x cls d → Wx W H H' → W.I H' → E cls d H'
structure OwnC (P : Program) (w : World) (K : PySem.W.Frag) (mg : Str → Option Value) (base : Heap) (cA : Str → Value) (x : Str) (c : Ctr) : Prop where
  ex : OwnX P w K mg base x c.lvl c.ps (spC K cA c)
theorem takes0 {X : Cx} : Takes X (fun _ _ _ _ => False) := takes_none5
section
variable {ι : Type} {F : ι → Cx} {P : Program} {w : World} {K : PySem.W.Frag} {mg : Str → Option Value} {base : Heap} {N : List Str} {k : Nat} {sc : Scope} {V : Wd} {cA : Str → Value} {wi : L2.WX} {cfg : List Sl} {X : Exc → Prop} {R : Sv → Prop}
theorem el_cons' {e : Expr} {es : List Expr} {R : List PyData → Prop} (h : EvS F V K cA wi e cfg (fun r => asD r fun d => EvL F V K cA wi es cfg (fun ds => R (d :: ds)) X) X)
    (st : ∀ i, starEach (e :: es) (F i).env = (false, eval e (F i).env) :: starEach es (F i).env) : EvL F V K cA wi (e :: es) cfg R X := el_cons h (fun _ z => z) st (R2 := fun _ _ => True)
theorem es_bi (fm : Fam P w K mg base N k sc F) (hs : (base.get? sysModules).isSome = true) {f : Bi} {p pos : Pos} {e : Expr} {es : List Expr} (ha : EvL F V K cA wi (e :: es) cfg (fun ds => biW f ds fun z => R (.dat z)) X) (hm : mg (biName f) = none) (hg : glB sc (biName f) = true)
    (st : ∀ i, starEach (e :: es) (F i).env = (false, eval e (F i).env) :: starEach es (F i).env) (pl : ∀ i, (backTo pos (starEach es (F i).env)).any (·.1) = false) : EvS F V K cA wi (.Call (.Name (biName f) p) (e :: es) [] pos) cfg R X := by
  intro σ H i sd Q q x
  refine ⟨tCB (WC F (biVal f)) (WA F (e :: es)), fun z => ?_, ?_⟩
  · cases f <;> first
      | exact pe_callB (wc_call z) (gl_of (fm.es z) hg) (by rw [fm.mg z]; exact hm) (by decide +kernel) (wa_pa z) (by decide) (by decide) (st z) (pl z)
      | exact pe_callTy (wc_call z) (gl_of (fm.es z) hg) (by rw [fm.mg z]; exact hm) (by decide +kernel) (wa_pa z) (by decide) (by decide) (st z) (pl z)
  · refine ha σ H i sd _ (fun vs H1 ds x1 i1 d1 h1 => ?_) x
    refine bi_ok fm hs h1 H1 vs i1 d1 Q fun v H' r x' i' d h => ?_
    obtain ⟨z, rfl, hz⟩ := h
    obtain ⟨_, e, dn⟩ := d
    cases e
    exact q v H' (.dat z) (x1.trans x') i' dn hz
theorem es_fn (fm : Fam P w K mg base N k sc F) (tk : ∀ i, Takes (F i) wi) {x : Str} {c : Ctr} {p pos : Pos} {e : Expr} {es : List Expr} (o : OwnC P w K mg base cA x c) (hj : c.lvl ≤ k) (hpot : c.pot = false) (hl : (e :: es).length = c.ps.length) (ha : EvL F V K cA wi (e :: es) cfg (fun ds => ds.length = (e :: es).length ∧ c.ct ds R X) X)
    (hg : glB sc x = true) (hdb : (x == ("__debug__" : Str)) = false) (st : ∀ i, starEach (e :: es) (F i).env = (false, eval e (F i).env) :: starEach es (F i).env) (pl : ∀ i, (backTo pos (starEach es (F i).env)).any (·.1) = false) : EvS F V K cA wi (.Call (.Name x p) (e :: es) [] pos) cfg R X := by
  obtain ⟨f, fd, hm, hk, hb, G⟩ := o.ex.ex
  intro σ H i sd Q q xo
  refine ⟨fun σ H Q => WA F (e :: es) σ H fun vs H1 => spC K cA c vs H1 Q (fun cls d H2 => wi cls d σ H2), fun z => ?_, ?_⟩
  · have GG : FnX (F z).prog (F z).w (F z).K (F z).mg (F z).base c.lvl f fd c.ps (spC K cA c) := by rw [fm.pr z, fm.wo z, fm.kk z, fm.mg z, fm.ba z]; exact G
    exact pe_callX GG (tk z) (fm.gu z) ((fm.ro z).mono hj) (gl_of (fm.es z) hg) (by rw [fm.mg z]; exact hm) (by rw [fm.kk z]; exact hk) (by rw [fm.kk z]; exact hb) (wa_pa z) hdb (st z) (pl z)
  · refine ha σ H i sd _ (fun vs H1 ds x1 i1 d1 h1 => ?_) xo
    refine ⟨V, vs, ds, R, X, ?_, i1, d1, ?_, h1.2, fun v H' r x2 i2 rv hr => q v H' r (x1.trans x2) i2 (rv.back x1 i) hr, xo.mono x1⟩
    · unfold PotArg
      rw [hpot, if_neg Bool.false_ne_true]
    · rw [d1.length, h1.1, hl]
theorem es_fnP (fm : Fam P w K mg base N k sc F) (tk : ∀ i, Takes (F i) wi) {x : Str} {c : Ctr} {p pos pv : Pos} {es : List Expr} {y : Str} {j : Nat} {pp pc : Addr} {ns : List Int} (dw : Draws V pp pc ns) (o : OwnC P w K mg base cA x c) (hj : c.lvl ≤ k) (hpot : c.pot = true) (hl : es.length + 1 = c.ps.length)
    (hN : N[j]? = some y) (he : (cfg.map absS)[j]? = some (.raw (.ref pp))) (ha : EvL F V K cA wi es cfg (fun ds => ds.length = es.length ∧ c.ct ds R X) X) (hv : visB sc y = true) (hd : (y == ("__debug__" : Str)) = false) (hc : (y == ("__classdict__" : Str)) = false)
    (hg : glB sc x = true) (hdb : (x == ("__debug__" : Str)) = false) (st : ∀ i, starEach (.Name y pv :: es) (F i).env = (false, eval (.Name y pv) (F i).env) :: starEach es (F i).env) (pl : ∀ i, (backTo pos (starEach es (F i).env)).any (·.1) = false) : EvS F V K cA wi (.Call (.Name x p) (.Name y pv :: es) [] pos) cfg R X := by
  obtain ⟨f, fd, hm, hk, hb, G⟩ := o.ex.ex
  intro σ H i sd Q q xo
  refine ⟨fun σ H Q => WA F (.Name y pv :: es) σ H fun vs H1 => spC K cA c vs H1 Q (fun cls d H2 => wi cls d σ H2), fun z => ?_, ?_⟩
  · have GG : FnX (F z).prog (F z).w (F z).K (F z).mg (F z).base c.lvl f fd c.ps (spC K cA c) := by rw [fm.pr z, fm.wo z, fm.kk z, fm.mg z, fm.ba z]; exact G
    exact pe_callX GG (tk z) (fm.gu z) ((fm.ro z).mono hj) (gl_of (fm.es z) hg) (by rw [fm.mg z]; exact hm) (by rw [fm.kk z]; exact hk) (by rw [fm.kk z]; exact hb) (wa_pa z) hdb (st z) (pl z)
  · refine ⟨tCons (WE F (.Name y pv)) (WA F es), fun z => pa_cons (we_pe z) (wa_pa z) (st z), ?_⟩
    refine (es_slot (R := fun r => r = .raw (.ref pp)) (X := X) (cA := cA) (wi := wi) fm hN he rfl hv hd hc) σ H i sd _ (fun v H0 r x0 i0 rv hr => ?_) xo
    subst hr
    have rv : v = .ref pp := rv
    subst rv
    refine ha σ H0 i0 (sd.mono x0) _ (fun vs H1 ds x1 i1 d1 h1 => ?_) (xo.mono x0)
    refine ⟨V, vs, ds, R, X, ?_, i1, d1, ?_, h1.2, fun v H' r x2 i2 rv hr => q v H' r ((x0.trans x1).trans x2) i2 (rv.back (x0.trans x1) i) hr, xo.mono (x0.trans x1)⟩
    · unfold PotArg
      rw [hpot, if_pos rfl]
      exact ⟨pp, pc, ns, rfl, dw⟩
    · rw [List.length_cons, d1.length, h1.1, hl]
theorem mem_cells {c : Addr × HO} : ∀ {cfg : List Sl}, c ∈ cellsOf cfg ↔ ∃ (i : Nat) (s : Sl), cfg[i]? = some s ∧ c ∈ cellS s
  | [] => ⟨fun h => absurd h List.not_mem_nil, fun ⟨_, _, h, _⟩ => nomatch h⟩
  | z :: cfg => by
    constructor
    · intro h
      rcases List.mem_append.mp h with h | h
      · exact ⟨0, z, rfl, h⟩
      · obtain ⟨i, s, e, hs⟩ := mem_cells.mp h
        exact ⟨i + 1, s, e, hs⟩
    · rintro ⟨i, s, e, hs⟩
      cases i with
      | zero =>
        cases e
        exact List.mem_append.mpr (Or.inl hs)
      | succ i => exact List.mem_append.mpr (Or.inr (mem_cells.mpr ⟨i, s, e, hs⟩))
theorem set_get {cfg : List Sl} {i j : Nat} {s t : Sl} (h : (cfg.set j s)[i]? = some t) : (i = j ∧ t = s) ∨ (i ≠ j ∧ cfg[i]? = some t) := by
  by_cases e : j = i
  · subst e
    by_cases l : j < cfg.length
    · rw [List.getElem?_set_self l] at h
      cases h
      exact Or.inl ⟨rfl, rfl⟩
    · rw [List.getElem?_eq_none (by rw [List.length_set]; omega)] at h
      exact nomatch h
  · rw [List.getElem?_set_ne e] at h
    exact Or.inr ⟨fun z => e z.symm, h⟩
/-- slots that stand as they did, or hold nothing own -/
def Kept (cfg cfg' : List Sl) : Prop := ∀ (i : Nat) t, cfg'[i]? = some t → cellS t = [] ∨ cfg[i]? = some t
theorem Kept.sub {cfg cfg' : List Sl} (h : Kept cfg cfg') : ∀ c ∈ cellsOf cfg', c ∈ cellsOf cfg := fun c hc => by
  obtain ⟨i, t, ht, hm⟩ := mem_cells.mp hc
  rcases h i t ht with e | e
  · rw [e] at hm; exact absurd hm List.not_mem_nil
  · exact mem_cells.mpr ⟨i, t, e, hm⟩
theorem Kept.refl (cfg : List Sl) : Kept cfg cfg := fun _ _ h => Or.inr h
theorem Kept.trans {a b c : List Sl} (h : Kept a b) (k : Kept b c) : Kept a c := fun i t e => (k i t e).elim Or.inl fun e => h i t e
theorem Kept.set {cfg : List Sl} {s : Sl} (j : Nat) (h : cellS s = []) : Kept cfg (cfg.set j s) := fun i t e => by
  rcases set_get e with ⟨_, rfl⟩ | ⟨_, e⟩
  · exact Or.inl h
  · exact Or.inr e
/-! targets -/
def TgS (F : ι → Cx) (V : Wd) (K : PySem.W.Frag) (tg : Expr) (cfg : List Sl) (vs : List Nat) (d : PyData) (B : List Sv → Prop) : Prop :=
  ∀ (v : L2.V) (σ : L2.St) (H : Hp), V.I H → Sd V K H σ cfg → Dn V K H v d → ∀ Q : L2.St → Hp → Prop, (∀ σ' cfg', Sd V K H σ' cfg' → Kept cfg cfg' → L2.wipe σ' vs = L2.wipe σ vs → B (cfg'.map absS) → Q σ' H) → WG F tg v σ H Q
def TgsS (F : ι → Cx) (V : Wd) (K : PySem.W.Frag) (tgs : List Expr) (cfg : List Sl) (vs : List Nat) (ds : List PyData) (B : List Sv → Prop) : Prop :=
  ∀ (us : List L2.V) (σ : L2.St) (H : Hp), V.I H → Sd V K H σ cfg → DnAll V K H us ds → ∀ Q : L2.St → Hp → Prop, (∀ σ' cfg', Sd V K H σ' cfg' → Kept cfg cfg' → L2.wipe σ' vs = L2.wipe σ vs → B (cfg'.map absS) → Q σ' H) → WGs F tgs us σ H Q
theorem cells_set {s : Sl} (hs : cellS s = []) : ∀ {cfg : List Sl} {j : Nat} {c : Addr × HO}, c ∈ cellsOf (cfg.set j s) → c ∈ cellsOf cfg
  | [], _, _, h => h
  | z :: cfg, 0, c, h => by
    rw [List.set_cons_zero] at h
    unfold cellsOf at h ⊢
    rw [hs] at h
    exact List.mem_append.mpr (Or.inr h)
  | z :: cfg, j + 1, c, h => by
    rw [List.set_cons_succ] at h
    unfold cellsOf at h ⊢
    rcases List.mem_append.mp h with h | h
    · exact List.mem_append.mpr (Or.inl h)
    · exact List.mem_append.mpr (Or.inr (cells_set hs h))
theorem wipe_get : ∀ {vs : List Nat} {σ : L2.St} {i : Nat}, (L2.wipe σ vs)[i]? = if i ∈ vs then (σ[i]?.map fun _ => none) else σ[i]?
  | [], σ, i => rfl
  | v :: vs, σ, i => by
    show ((L2.wipe σ vs).set v none)[i]? = _
    by_cases e : v = i
    · subst e
      rw [if_pos List.mem_cons_self]
      by_cases h : v < (L2.wipe σ vs).length
      · rw [List.getElem?_set_self h]
        rw [wipe_length] at h
        rw [List.getElem?_eq_getElem h]
        rfl
      · have h2 : σ.length ≤ v := by rw [wipe_length] at h; omega
        rw [List.getElem?_eq_none (by rw [List.length_set, wipe_length]; exact h2), List.getElem?_eq_none h2]
        rfl
    · rw [List.getElem?_set_ne e, wipe_get]
      by_cases h : i ∈ vs
      · rw [if_pos h, if_pos (List.mem_cons_of_mem _ h)]
      · rw [if_neg h, if_neg (fun m => (List.mem_cons.mp m).elim (fun z => e z.symm) h)]
theorem wipe_eq {vs : List Nat} {σ : L2.St} {j : Nat} {v : Option L2.V} (h : j ∈ vs) : L2.wipe (σ.set j v) vs = L2.wipe σ vs := by
  apply List.ext_getElem?
  intro i
  rw [wipe_get, wipe_get]
  by_cases e : j = i
  · subst e
    rw [if_pos h, if_pos h]
    by_cases l : j < σ.length
    · rw [List.getElem?_set_self l, List.getElem?_eq_getElem l]
      rfl
    · rw [List.getElem?_eq_none (by rw [List.length_set]; omega), List.getElem?_eq_none (by omega)]
  · rw [List.getElem?_set_ne e]
theorem tg_nm (fm : Fam P w K mg base N k sc F) {x : Str} {pos : Pos} {j : Nat} {vs : List Nat} {d : PyData} {B : List Sv → Prop} (hN : N[j]? = some x) (hj : j ∈ vs) (h : B ((cfg.map absS).set j (.dat d))) (hx : ∀ i, Loc (F i).env.scope x) (hf : ∀ i, (F i).fn x = true ∨ (F i).env.scope.names.lookup x = some .local) :
    TgS F V K (.Name x pos) cfg vs d B := by
  intro v σ H i sd dn Q q
  refine ⟨gName j, fun z => pg_name (by rw [fm.nn z]; exact fm.nd) (by rw [fm.nn z]; exact hN) (hx z) (hf z), ?_⟩
  exact q _ (cfg.set j (.dat d)) (Sd.set dn.dv j sd) (Kept.set j rfl) (wipe_eq hj) (by rw [List.map_set]; exact h)
theorem tgs_nilS {vs : List Nat} {B : List Sv → Prop} (h : B (cfg.map absS)) : TgsS F V K [] cfg vs [] B := by
  intro us σ H i sd dn Q q
  cases dn
  exact ⟨gNil, fun _ => pgs_nil, rfl, q σ cfg sd (Kept.refl _) rfl h⟩
theorem tgs_consS {e : Expr} {es : List Expr} {vs : List Nat} {d : PyData} {ds : List PyData} {B : List Sv → Prop} {B1 : List Sv → Prop} (h : TgS F V K e cfg vs d B1) (m : ∀ cfg1, Kept cfg cfg1 → B1 (cfg1.map absS) → TgsS F V K es cfg1 vs ds B)
    (st : ∀ i, (assignEach (e :: es) (F i).env).map (·.2) = assign e (F i).env :: (assignEach es (F i).env).map (·.2)) : TgsS F V K (e :: es) cfg vs (d :: ds) B := by
  intro us σ H i sd dn Q q
  cases dn with
  | cons dn dt =>
    rename_i v vs'
    refine ⟨gCons (WG F e) (WGs F es), fun z => pgs_cons (wg_pg z) (wgs_pgs z) (st z), v, vs', rfl, ?_⟩
    refine h v σ H i sd dn _ fun σ1 cfg1 sd1 c1 w1 b1 => ?_
    exact m cfg1 c1 b1 vs' σ1 H i sd1 dt Q fun σ2 cfg2 sd2 c2 w2 b2 => q σ2 cfg2 sd2 (c1.trans c2) (w2.trans w1) b2
theorem tg_tupS (fm : Fam P w K mg base N k sc F) {es : List Expr} {k1 : Nat} {pos : Pos} {vs : List Nat} {d : PyData} {ds : List PyData} {B : List Sv → Prop} (hd : d = .tuple ds ∨ d = .list ds) (h : TgsS F V K es cfg vs ds B) (hl : ds.length = es.length) (hn : ∀ i, (assignEach es (F i).env).length = es.length)
    (hst : ∀ i, (assignEach es (F i).env).findIdx? (·.1) = none) : TgS F V K (.Tuple es k1 pos) cfg vs d B := by
  intro v σ H i sd dn Q q
  rcases hd with rfl | rfl
  · cases dn with
    | tup a r =>
      refine ⟨gTup K es.length (WGs F es), fun z => by have := pg_tup (k := k1) (pos := pos) (fm.ca z) (wgs_pgs (F := F) (ts := es) z) (hn z) (hst z); rwa [fm.kk z] at this, _, _, rfl, a.sq, r.length.trans hl, ?_⟩
      exact h _ σ H i sd r Q q
  · cases dn with
    | lst a r =>
      refine ⟨gUnl K es.length (WGs F es), fun z => by have := pg_unl (k := k1) (pos := pos) (fm.ca z) (wgs_pgs (F := F) (ts := es) z) (hn z) (hst z); rwa [fm.kk z] at this, _, _, rfl, a.sq, r.length.trans hl, ?_⟩
      exact h _ σ H i sd r Q q
end
end Dr

set_option Elab.async false
set_option linter.all false
set_option maxRecDepth 100000
set_option maxHeartbeats 1000000
namespace Dr
open PySem PySem.Spec PyProof.Rows L2 Cr RZ
section
variable {X : Cx} {tg l : Expr} {tl : TE}
def iSeq (K : PySem.W.Frag) (tl : TE) : TI := fun σ H R => tl σ H fun x H1 => ∃ a, x = .ref a ∧ (((∃ xs, SqL K H1 a xs) ∧ R (Itl K a) H1) ∨ ((∃ xs, SqT K H1 a xs) ∧ R (Itt K a) H1))
theorem pi_seq (hl : PE X l tl) : PI X tg l (iSeq X.K tl) := by
  refine ⟨fun pins s σ H R I h => ?_⟩
  refine thn (hl.run pins s σ H _ I h) fun v s1 ⟨x, H1, I1, r1, q1⟩ => ?_
  obtain ⟨a, e, q1⟩ := q1
  subst e
  cases r1
  rcases q1 with ⟨⟨xs, hq⟩, q⟩ | ⟨⟨xs, hq⟩, q⟩
  · obtain ⟨its, rv, p, hz⟩ := I1.list hq
    refine wpAny_pyIter_list p.isList ?_
    refine ⟨s1.heap.objs.size, [s1.heap.objs.size], _, _, H1, rfl, I1.kept (t' := s1.toks) fun b o e => Heap.get?_push_of_some _ e, turn_list a _, ⟨_, Heap.get?_push_size _ rfl, rfl, rfl⟩, fun b hb => ?_, q⟩
    have e : b = s1.heap.objs.size := by simpa using hb
    subst e
    exact I1.fpOk (Nat.le_refl _) (I1.hok.fresh (Nat.le_refl _))
  · obtain ⟨its, rv, p, hz⟩ := I1.tuple hq
    refine wpAny_pyIter_tuple (show s1.heap.IsTuple a its.toArray from p) ?_
    refine ⟨s1.heap.objs.size, [s1.heap.objs.size], _, _, H1, rfl, I1.kept (t' := s1.toks) fun b o e => Heap.get?_push_of_some _ e, turn_tuple a _, ⟨_, Heap.get?_push_size _ rfl, rfl, rfl⟩, fun b hb => ?_, q⟩
    have e : b = s1.heap.objs.size := by simpa using hb
    subst e
    exact I1.fpOk (Nat.le_refl _) (I1.hok.fresh (Nat.le_refl _))
end
section
variable {ι : Type} {F : ι → Cx} {P : Program} {w : World} {K : PySem.W.Frag} {mg : Str → Option Value} {base : Heap} {N : List Str} {k : Nat} {sc : Scope} {V : Wd} {cA : Str → Value} {wi : L2.WX} {cfg : List Sl} {X : Exc → Prop} {R : Sv → Prop}
theorem iter_walk {H1 : Hp} {J : It} {n : Nat} {G : Hp → Prop} {Y : Nat → Hp → L2.V → Hp → Prop} (wk : Walk J n G Y) {ds : List PyData} (hn : ds.length = n) (hG : ∀ (U : Wd) H', Mv V H1 U H' → G H') (hY : ∀ i d (U : Wd) H' x H2, ds[i]? = some d → Mv V H1 U H' → U.I H' → Y i H' x H2 → Xt H' H2 ∧ Dn U K H2 x d) : IterD V K H1 J ds where
  go i d hd U H' x iU := by
    have il : i < n := by rw [← hn]; exact (List.getElem?_eq_some_iff.mp hd).1
    exact ⟨wk.goes i H' il (hG U H' x), fun v H2 y => hY i d U H' v H2 hd x iU (wk.yields i H' v H2 il (hG U H' x) y)⟩
  stop U H' x := by rw [hn]; exact wk.stops H' (hG U H' x)
theorem la_move {U : Wd} {H1 H' : Hp} {a : Addr} {xs : List L2.V} (m : Mv V H1 U H') (h : LA V K H1 a xs) : LA U K H' a xs := ⟨(m _ _ h.2 h.1).2, (m _ _ h.2 h.1).1⟩
theorem ta_move {U : Wd} {H1 H' : Hp} {a : Addr} {xs : List L2.V} (m : Mv V H1 U H') (h : TA' V K H1 a xs) : TA' U K H' a xs := h.imp (fun a => ⟨(m _ _ a.2 a.1).2, (m _ _ a.2 a.1).1⟩) id
theorem iter_list {H1 : Hp} {a : Addr} {xs : List L2.V} {ds : List PyData} (la : LA V K H1 a xs) (da : DnAll V K H1 xs ds) : IterD V K H1 (Itl K a) ds :=
  iter_walk walk_list da.length.symm (fun U H' x => (la_move x la).sq) fun i d U H' v H2 hd x _ ⟨e, hv⟩ => by
    subst e
    obtain ⟨d', hd', dn⟩ := da.getV hv
    rw [hd] at hd'
    cases hd'
    exact ⟨Xt.refl _, Dn.move x dn⟩
theorem iter_tup {H1 : Hp} {a : Addr} {xs : List L2.V} {ds : List PyData} (la : TA' V K H1 a xs) (da : DnAll V K H1 xs ds) : IterD V K H1 (Itt K a) ds :=
  iter_walk walk_tup da.length.symm (fun U H' x => (ta_move x la).sq) fun i d U H' v H2 hd x _ ⟨e, hv⟩ => by
    subst e
    obtain ⟨d', hd', dn⟩ := da.getV hv
    rw [hd] at hd'
    cases hd'
    exact ⟨Xt.refl _, Dn.move x dn⟩
theorem range_get {n i : Nat} {d : PyData} (hd : ((List.range n).map fun (m : Nat) => PyData.int (m : Int))[i]? = some d) : d = .int (i : Int) := by
  rw [List.getElem?_map] at hd
  cases hr : (List.range n)[i]? with
  | none => rw [hr] at hd; exact nomatch hd
  | some m =>
    rw [hr] at hd
    cases hd
    obtain ⟨l, e⟩ := List.getElem?_eq_some_iff.mp hr
    rw [List.getElem_range] at e
    rw [e]
theorem iter_range {H1 : Hp} {n : Nat} : IterD V K H1 (Itr 0 n) ((List.range n).map fun (m : Nat) => .int (m : Int)) :=
  iter_walk walk_range (by rw [List.length_map, List.length_range]) (fun _ _ _ => trivial) fun i d U H' v H2 hd x _ ⟨e, hv⟩ => by
    subst e
    rw [hv, range_get hd]
    refine ⟨Xt.refl _, ?_⟩
    show Dn U K _ (.int (0 + (i : Int))) _
    rw [show (0 : Int) + (i : Int) = (i : Int) by omega]
    exact .int _
theorem pair_new {U : Wd} {H' : Hp} {T : Addr} {u v : L2.V} {a b : PyData} (iU : U.I H') (hT : H' T = none) (du : Dn U K H' u a) (dv : Dn U K H' v b) : Xt H' (upd H' T (.tup [u, v])) ∧ Dn U K (upd H' T (.tup [u, v])) (.ref T) (.tuple [a, b]) := by
  have x : Wx U H' (upd H' T (.tup [u, v])) := fun p o _ h => Xt.new hT p o h
  exact ⟨Xt.new hT, .tup (Or.inl ⟨fun m => U.has H' T iU m hT, upd_same⟩) (.cons (du.mono x) (.cons (dv.mono x) .nil))⟩
theorem zip_get : ∀ {ds es : List PyData} {i : Nat} {d : PyData}, (zipL ds es)[i]? = some d → ∃ a b, ds[i]? = some a ∧ es[i]? = some b ∧ d = .tuple [a, b] := by
  intro ds es i d h
  unfold zipL at h
  rw [List.getElem?_map] at h
  cases hz : (ds.zip es)[i]? with
  | none => rw [hz] at h; exact nomatch h
  | some p =>
    rw [hz] at h
    cases h
    obtain ⟨h1, h2⟩ := List.getElem?_zip_eq_some.mp hz
    exact ⟨p.1, p.2, h1, h2, rfl⟩
theorem iter_pair {H1 : Hp} {J : It} {n : Nat} {G : Hp → Prop} {xs ys : List L2.V} {ds es : List PyData} (wk : Walk J n G (YPair (fun i => xs[i]?) (fun i => ys[i]?))) (hn : n = min xs.length ys.length) (da : DnAll V K H1 xs ds) (db : DnAll V K H1 ys es) (hG : ∀ (U : Wd) H', Mv V H1 U H' → G H') : IterD V K H1 J (zipL ds es) :=
  iter_walk wk (by unfold zipL; rw [List.length_map, List.length_zip, hn, da.length, db.length]) hG fun i d U H' v H2 hd x iU ⟨T, ua, ub, e, hT, e2, hx, hy⟩ => by
    subst e e2
    obtain ⟨a, b, ha, hb, rfl⟩ := zip_get hd
    obtain ⟨d1, hd1, dx1⟩ := da.getV hx
    obtain ⟨d2, hd2, dx2⟩ := db.getV hy
    rw [ha] at hd1
    rw [hb] at hd2
    cases hd1
    cases hd2
    exact pair_new iU hT (Dn.move x dx1) (Dn.move x dx2)
theorem enu_get {ds : List PyData} {i : Nat} {d : PyData} (h : (enuL ds)[i]? = some d) : ∃ a, ds[i]? = some a ∧ d = .tuple [.int (i : Int), a] := by
  unfold enuL at h
  rw [List.getElem?_map, List.getElem?_zipIdx] at h
  cases hz : ds[i]? with
  | none => rw [hz] at h; exact nomatch h
  | some p =>
    rw [hz] at h
    cases h
    exact ⟨p, rfl, by simp⟩
theorem iter_enum {H1 : Hp} {J : It} {G : Hp → Prop} {xs : List L2.V} {ds : List PyData} (wk : Walk J xs.length G (YPair (fun i => some (.int (i : Nat))) (fun i => xs[i]?))) (da : DnAll V K H1 xs ds) (hG : ∀ (U : Wd) H', Mv V H1 U H' → G H') : IterD V K H1 J (enuL ds) :=
  iter_walk wk (by unfold enuL; rw [List.length_map, List.length_zipIdx, da.length]) hG fun i d U H' v H2 hd x iU ⟨T, ua, ub, e, hT, e2, hx, hy⟩ => by
    subst e e2
    obtain ⟨a, ha, rfl⟩ := enu_get hd
    obtain ⟨d2, hd2, dx2⟩ := da.getV hy
    rw [ha] at hd2
    cases hd2
    cases hx
    exact pair_new iU hT (.int _) (Dn.move x dx2)
/-! the walked things -/
theorem ei_seq (fm : Fam P w K mg base N k sc F) {tg e : Expr} {B : List PyData → Prop} (h : EvS F V K cA wi e cfg (fun r => asS r B) X) : EvI F V K cA wi tg e cfg B X := by
  intro σ H i sd Q q xo
  refine ⟨iSeq K (WE F e), fun z => by have := pi_seq (tg := tg) (we_pe (F := F) (e := e) z); rwa [fm.kk z] at this, ?_⟩
  refine h σ H i sd _ (fun v H1 r x1 i1 rv hr => ?_) xo
  obtain ⟨ds, hb, ha⟩ := asS_is hr
  obtain ⟨d, hd, dn⟩ := asD_dn rv ha
  rcases hd with rfl | rfl
  · cases dn with
    | lst la da => exact ⟨_, rfl, Or.inl ⟨⟨_, la.sq⟩, q _ H1 ds x1 i1 (iter_list la da) hb⟩⟩
  · cases dn with
    | tup la da => exact ⟨_, rfl, Or.inr ⟨⟨_, la.sq⟩, q _ H1 ds x1 i1 (iter_tup la da) hb⟩⟩
theorem ei_rng (fm : Fam P w K mg base N k sc F) {tg a : Expr} {p pc : Pos} {B : List PyData → Prop} (h : EvS F V K cA wi a cfg (fun r => asI r fun i => (-1000000 ≤ i ∧ i ≤ 1000000) ∧ B ((List.range i.toNat).map fun (m : Nat) => .int (m : Int))) X) (hm : mg "range" = none)
    (hg : glB sc "range" = true) (st : ∀ i, starEach [a] (F i).env = [(false, eval a (F i).env)]) : EvI F V K cA wi tg (.Call (.Name "range" p) [a] [] pc) cfg B X := by
  intro σ H i sd Q q xo
  refine ⟨iRng1 (WA F [a]), fun z => pi_range1 (gl_of (fm.es z) hg) (by rw [fm.mg z]; exact hm) (wa_pa z) (st z), ?_⟩
  refine ⟨tCons (WE F a) tNil, fun z => pa_cons (we_pe z) pa_nil (by rw [st z]; rfl), ?_⟩
  refine h σ H i sd _ (fun v H1 r x1 i1 rv hr => ?_) xo
  obtain ⟨n, rfl, hn, hb⟩ := asI_is hr
  have rv : Dn V K H1 v (.int n) := rv
  cases rv
  exact ⟨n, rfl, by omega, by omega, q _ H1 _ x1 i1 iter_range hb⟩
theorem ei_zip (fm : Fam P w K mg base N k sc F) {elts : List Expr} {kk : Nat} {tpos : Pos} {a b : Expr} {p pc : Pos} {B : List PyData → Prop} {Ra : Sv → Prop} (ha : EvS F V K cA wi a cfg Ra X) (m : ∀ r, Ra r → asD r fun x => EvS F V K cA wi b cfg (fun r => asD r fun y => zipW x y B) X) (hm : mg "zip" = none)
    (hg : glB sc "zip" = true) (st : ∀ i, starEach [a, b] (F i).env = (false, eval a (F i).env) :: starEach [b] (F i).env) (st2 : ∀ i, starEach [b] (F i).env = (false, eval b (F i).env) :: starEach [] (F i).env) (pl : ∀ i, (backTo pc (starEach [b] (F i).env)).any (·.1) = false) : EvI F V K cA wi (.Tuple elts kk tpos) (.Call (.Name "zip" p) [a, b] [] pc) cfg B X := by
  intro σ H i sd Q q xo
  refine ⟨iZipA K (WA F [a, b]), fun z => by have := pi_zipA (p := p) (pos := pc) (tpos := tpos) (elts := elts) (kk := kk) (gl_of (fm.es z) hg) (by rw [fm.mg z]; exact hm) (wa_pa (F := F) (es := [a, b]) z) (st z) (pl z); rwa [fm.kk z] at this, ?_⟩
  refine ⟨tCons (WE F a) (tCons (WE F b) tNil), fun z => pa_cons (we_pe z) (pa_cons (we_pe z) pa_nil (st2 z)) (st z), ?_⟩
  refine two_all (k2 := fun x y => zipW x y B) ha m σ H i sd (fun _ => True) _ (fun v u H' x y x1 i1 dx dy h => ?_) xo
  unfold zipW at h
  split at h
  · cases dx with
    | lst la da =>
      cases dy with
      | lst lb db => exact ⟨_, _, _, _, rfl, Or.inl ⟨la.sq, lb.sq, q _ H' _ x1 i1 (iter_pair (walk_zip rfl) rfl da db fun U H2 z => ⟨(la_move z la).sq, (la_move z lb).sq⟩) h⟩⟩
  · cases dx with
    | tup la da =>
      cases dy with
      | tup lb db => exact ⟨_, _, _, _, rfl, Or.inr ⟨la.sq, lb.sq, q _ H' _ x1 i1 (iter_pair (Cr.walk_zipT rfl) rfl da db fun U H2 z => ⟨(ta_move z la).sq, (ta_move z lb).sq⟩) h⟩⟩
  · exact h.elim
theorem ei_enu (fm : Fam P w K mg base N k sc F) {elts : List Expr} {kk : Nat} {tpos : Pos} {a : Expr} {p pc : Pos} {B : List PyData → Prop} (h : EvS F V K cA wi a cfg (fun r => asD r fun d => ∃ ds, d = .list ds ∧ B (enuL ds)) X) (hm : mg "enumerate" = none)
    (hg : glB sc "enumerate" = true) (st : ∀ i, starEach [a] (F i).env = [(false, eval a (F i).env)]) : EvI F V K cA wi (.Tuple elts kk tpos) (.Call (.Name "enumerate" p) [a] [] pc) cfg B X := by
  intro σ H i sd Q q xo
  refine ⟨iEnum K (WA F [a]), fun z => by have := pi_enum (p := p) (pos := pc) (tpos := tpos) (elts := elts) (kk := kk) (gl_of (fm.es z) hg) (by rw [fm.mg z]; exact hm) (wa_pa (F := F) (es := [a]) z) (st z); rwa [fm.kk z] at this, ?_⟩
  refine ⟨tCons (WE F a) tNil, fun z => pa_cons (we_pe z) pa_nil (by rw [st z]; rfl), ?_⟩
  refine h σ H i sd _ (fun v H1 r x1 i1 rv hr => ?_) xo
  obtain ⟨d, ⟨ds, rfl, hb⟩, dn⟩ := asD_dn rv hr
  cases dn with
  | lst la da => exact ⟨_, _, rfl, la.sq, q _ H1 _ x1 i1 (iter_enum walk_enum da fun U H2 z => (la_move z la).sq) hb⟩
/-! ### comprehensions -/
def EvIfs (F : ι → Cx) (V : Wd) (K : PySem.W.Frag) (ifs : List Expr) (cfg : List Sl) (B : Bool → Prop) : Prop :=
  ∀ (σ : L2.St) (H : Hp), V.I H → Sd V K H σ cfg → ∀ Q : Bool → Hp → Prop, (∀ b H', Wx V H H' → V.I H' → B b → Q b H') → WTs F ifs σ H Q
abbrev wi0 : L2.WX := fun _ _ _ _ => False
abbrev X0 : Exc → Prop := fun _ => False
theorem xo0 {σ : L2.St} {H : Hp} : XOk V K cA wi0 X0 σ H := fun _ _ _ _ h => h.elim
theorem eifs_nil {B : Bool → Prop} (h : B true) : EvIfs F V K [] cfg B := fun σ H i sd Q q => ⟨tYes, fun _ => pts_nil, q true H (Wx.refl V H) i h⟩
theorem eifs_one {c : Expr} {B : Bool → Prop} (h : EvB F V K cA wi0 c cfg B X0) : EvIfs F V K [c] cfg B := fun σ H i sd Q q => ⟨WT F c, fun z => pts_one (wt_pt z), h σ H i sd Q q xo0⟩
theorem wipe_sd {H : Hp} {σ : L2.St} : ∀ vs : List Nat, Sd V K H σ cfg → Sd V K H (L2.wipe σ vs) (wipeE cfg vs) := fun vs h => h.wipe vs
theorem wipe_abs : ∀ vs : List Nat, (wipeE cfg vs).map absS = wipeS (cfg.map absS) vs
  | [] => rfl
  | v :: vs => by
    show ((wipeE cfg vs).set v .any).map absS = _
    rw [List.map_set, wipe_abs vs]
    rfl
theorem wipe_cells : ∀ vs : List Nat, ∀ c ∈ cellsOf (wipeE cfg vs), c ∈ cellsOf cfg
  | [], _, h => h
  | v :: vs, c, h => wipe_cells vs c (cells_set (s := .any) rfl h)
theorem wipe_wipe {σ : L2.St} (vs : List Nat) : L2.wipe (L2.wipe σ vs) vs = L2.wipe σ vs := by
  apply List.ext_getElem?
  intro i
  rw [wipe_get, wipe_get]
  by_cases h : i ∈ vs
  · rw [if_pos h, if_pos h]
    cases σ[i]? <;> rfl
  · rw [if_neg h, if_neg h]
theorem lc_core (fm : Fam P w K mg base N k sc F) {elt tg it : Expr} {ifs : List Expr} {scope : Scope} {own : List (Str × Nat)} {tf : PyData → (List Sv → Prop) → Prop} {cf : List Sv → (Bool → Prop) → Prop} {ef : List Sv → (PyData → Prop) → Prop}
    (src : EvI F V K cA wi tg it cfg (fun ds => lcW tf cf ef ds [] fun es => R (.own (.list es))) X) (hb : ∀ z, BlkOk (F z).N (F z).env.scope scope own)
    (htg : ∀ D o, ¬ V.M D → ∀ d B, tf d B → TgS (FB F scope) (V.plus D o) K tg (wipeE cfg (own.map (·.2))) (own.map (·.2)) d B)
    (hif : ∀ D o cfg', ¬ V.M D → (∀ c ∈ cellsOf cfg', c ∈ cellsOf cfg) → ∀ B, cf (cfg'.map absS) B → EvIfs (FB F scope) (V.plus D o) K ifs cfg' B)
    (hel : ∀ D o cfg', ¬ V.M D → (∀ c ∈ cellsOf cfg', c ∈ cellsOf cfg) → ∀ B, ef (cfg'.map absS) B → EvS (FB F scope) (V.plus D o) K cA wi0 elt cfg' (fun r => asD r B) X0)
    (σ : L2.St) (H : Hp) (i : V.I H) (sd : Sd V K H σ cfg) (Q : VK) (q : ∀ v H' r, Wx V H H' → V.I H' → Rv V K H H' v r → R r → Q v H') (xo : XOk V K cA wi X σ H) : tLc (WI F tg it) (WG (FB F scope) tg) (WTs (FB F scope) ifs) (WE (FB F scope) elt) (own.map (·.2)) σ H Q := by
  refine src σ H i sd _ (fun J H1 ds x1 i1 itd hl => ?_) xo
  intro D hD
  have nD : ¬ V.M D := fun m => V.has H1 D i1 m hD
  have wk : Walk J ds.length (fun H' => ∃ o, (V.plus D o).I H' ∧ Wx (V.plus D o) H1 H') (fun i H' x H2 => ∀ d, ds[i]? = some d → ∀ o, (V.plus D o).I H' → Wx (V.plus D o) H1 H' → Xt H' H2 ∧ Dn (V.plus D o) K H2 x d) := by
    have mv : ∀ {o H'}, Wx (V.plus D o) H1 H' → Mv V H1 (V.plus D o) H' := fun {o H'} x a ob h n => by
      have ne : a ≠ D := ne_of_none h hD
      exact ⟨x a ob (fun m => m.elim n ne) h, fun m => m.elim n ne⟩
    refine ⟨fun i H' il ⟨o, ii, x⟩ => (itd.go i ds[i] (by simp [il]) _ H' (mv x) ii).1, fun H' ⟨o, ii, x⟩ => itd.stop _ H' (mv x), fun i H' x H2 il ⟨o, ii, xx⟩ y d hd o2 ii2 xx2 => (itd.go i d hd _ H' (mv xx2) ii2).2 x H2 y⟩
  refine lc_it wk (fun i H' => ∃ acc es, (V.plus D (.lst acc)).I H' ∧ Wx (V.plus D (.lst acc)) H1 H' ∧ DnAll (V.plus D (.lst acc)) K H' acc es ∧ lcW tf cf ef (ds.drop i) es fun es => R (.own (.list es))) ?_ ?_ ?_ ?_
  · exact ⟨[], [], ⟨V.mono _ _ i1 (Xt.new hD), upd_same⟩, fun p o _ h => Xt.new hD p o h, .nil, hl⟩
  · rintro i H' _ ⟨acc, es, ii, x, _⟩
    exact ⟨_, ii, x⟩
  · rintro i x H0 H' il ⟨acc, es, ii0, xx0, dn0, hw⟩ hy
    have hd : ds[i]? = some ds[i] := by simp [il]
    obtain ⟨xt, dx⟩ := hy _ hd _ ii0 xx0
    have xw : Wx (V.plus D (.lst acc)) H0 H' := xt.wx _
    have ii := (V.plus D (.lst acc)).mono _ _ ii0 xt
    have xx := xx0.trans xw
    have dn := dn0.mono xw
    rw [List.drop_eq_getElem_cons il] at hw
    unfold lcW at hw
    have sdw : Sd (V.plus D (.lst acc)) K H' (L2.wipe σ (own.map (·.2))) (wipeE cfg (own.map (·.2))) := (((sd.mono x1).to (plus_of hD)).wipe _).mono xx
    refine htg D _ nD _ _ hw x _ H' ii sdw dx _ fun σ2 cfg2 sd2 c2 w2 hc => ?_
    refine ⟨w2.trans (wipe_wipe _), ?_⟩
    have cc : ∀ c ∈ cellsOf cfg2, c ∈ cellsOf cfg := fun c h => wipe_cells _ c (c2.sub c h)
    refine hif D _ cfg2 nD cc _ hc σ2 H' ii sd2 _ fun b H3 x3 i3 hb3 => ?_
    cases b with
    | true =>
      rw [if_pos rfl] at hb3
      show WE (FB F scope) elt σ2 H3 _
      refine hel D _ cfg2 nD cc _ hb3 σ2 H3 i3 (sd2.mono x3) _ (fun y H4 r x4 i4 d4 h4 => ?_) xo0
      obtain ⟨e, ⟨he, hw4⟩, dny⟩ := asD_dn d4 h4
      refine ⟨acc, i4.2, ?_, acc ++ [y], es ++ [e], ?_, ?_, ?_, ?_⟩
      · have := dn.length
        rw [sizeLine_eq]
        omega
      · exact ⟨V.loc _ _ i4.1 fun a m => upd_ne fun e => nD (e ▸ m), upd_same⟩
      · intro p o n h
        rw [upd_ne (ne_of_none h hD)]
        have n' : ¬ (V.plus D (.lst acc)).M p := n
        exact x4 p o n' (x3 p o n' (xx p o n' h))
      · have w4 : Wx (V.plus D (.lst (acc ++ [y]))) H4 (upd H4 D (.lst (acc ++ [y]))) := fun p o n h => by
          rw [upd_ne fun e => n (Or.inr e)]
          exact h
        have al : DnAll (V.plus D (.lst acc)) K H4 (acc ++ [y]) (es ++ [e]) := (dn.mono (x3.trans x4)).append (.cons dny .nil)
        exact DnAll.mono w4 (DnAll.to (W := V.plus D (.lst acc)) (W' := V.plus D (.lst (acc ++ [y]))) same_M al)
      · exact hw4
    | false =>
      rw [if_neg Bool.false_ne_true] at hb3
      show ∃ acc es, _
      exact ⟨acc, es, i3, xx.trans x3, dn.mono x3, hb3⟩
  · rintro H' ⟨acc, es, ii, xx, dn, hw⟩
    rw [List.drop_length] at hw
    unfold lcW at hw
    have xv : Wx V H1 H' := fun p o n h => xx p o (fun m => m.elim n fun e => ne_of_none h hD e) h
    refine q _ H' (.own (.list es)) (x1.trans xv) ii.1 ?_ hw.2
    refine Rv.back x1 i ⟨D, rfl, hD, nD, .lst acc, ii.2, ?_⟩
    exact DnAll.to (W := V.plus D (.lst acc)) (W' := V.opn D) (fun _ _ m => m) dn
theorem es_lc (fm : Fam P w K mg base N k sc F) {elt tg it : Expr} {ifs : List Expr} {scope : Scope} {pos : Pos} {own : List (Str × Nat)} {tf : PyData → (List Sv → Prop) → Prop} {cf : List Sv → (Bool → Prop) → Prop} {ef : List Sv → (PyData → Prop) → Prop}
    (src : EvI F V K cA wi tg it cfg (fun ds => lcW tf cf ef ds [] fun es => R (.own (.list es))) X) (hb : ∀ z, BlkOk (F z).N (F z).env.scope scope own)
    (htg : ∀ D o, ¬ V.M D → ∀ d B, tf d B → TgS (FB F scope) (V.plus D o) K tg (wipeE cfg (own.map (·.2))) (own.map (·.2)) d B)
    (hif : ∀ D o cfg', ¬ V.M D → (∀ c ∈ cellsOf cfg', c ∈ cellsOf cfg) → ∀ B, cf (cfg'.map absS) B → EvIfs (FB F scope) (V.plus D o) K ifs cfg' B)
    (hel : ∀ D o cfg', ¬ V.M D → (∀ c ∈ cellsOf cfg', c ∈ cellsOf cfg) → ∀ B, ef (cfg'.map absS) B → EvS (FB F scope) (V.plus D o) K cA wi0 elt cfg' (fun r => asD r B) X0)
    (hf : ∀ i x, foldedSetIterable it (F i).env x = pure x) : EvS F V K cA wi (.ListComp elt [⟨tg, it, ifs, 0⟩] scope pos) cfg R X := by
  intro σ H i sd Q q xo
  exact ⟨tLc (WI F tg it) (WG (FB F scope) tg) (WTs (FB F scope) ifs) (WE (FB F scope) elt) (own.map (·.2)), fun z => pe_lc (fm.ca z) (by rw [fm.nn z]; exact fm.nd) (wi_pi z) (hb z) (fun s H C cl fp => wg_pg (F := FB F scope) (z, s, H, C, cl, fp)) (fun s H C cl fp => wts_pts (F := FB F scope) (z, s, H, C, cl, fp)) (fun s H C cl fp => we_pe (F := FB F scope) (z, s, H, C, cl, fp)) (hf z), lc_core fm src hb htg hif hel σ H i sd Q q xo⟩
end
end Dr

set_option Elab.async false
set_option linter.all false
set_option maxRecDepth 100000
set_option maxHeartbeats 2000000
namespace Dr
open PySem PySem.Spec PyProof.Rows L2 Cr
/-! ## a comprehension with two clauses -/
theorem lc_from {J : It} {n : Nat} {G : Hp → Prop} {Y : Nat → Hp → L2.V → Hp → Prop} (w : Walk J n G Y) {g : TG} {tt : TT} {te : TE} {vs : List Nat} {σ : L2.St} {H1 : Hp} {D : Addr} {Qd : Hp → Prop} (Pv : Nat → Hp → Prop) (h0 : Pv 0 H1) (hG : ∀ i H, i ≤ n → Pv i H → G H)
    (hs : ∀ i x H H', i < n → Pv i H → Y i H x H' → g x (L2.wipe σ vs) H' fun σ2 H2 => L2.wipe σ2 vs = L2.wipe σ vs ∧ tt σ2 H2 fun b H3 =>
      if b = true then te σ2 H3 fun y H4 => ∃ acc, H4 D = some (.lst acc) ∧ acc.length < sizeLine ∧ Pv (i + 1) (upd H4 D (.lst (acc ++ [y]))) else Pv (i + 1) H3) (hd : ∀ H, Pv n H → Qd H) :
    ∃ W : Nat → Nat → Hp → Prop, (∃ m, W 0 m H1) ∧ ∀ i m H, W i m H →
      (J.stop i H ∧ Qd H) ∨ (J.go i H ∧ ∃ Nx : Hp → Prop, (∀ H', Nx H' → ∃ m', m' < m ∧ W (i + 1) m' H') ∧ ∀ x H', J.yld i H x H' → g x (L2.wipe σ vs) H' fun σ2 H2 => L2.wipe σ2 vs = L2.wipe σ vs ∧ tt σ2 H2 fun b H3 =>
        if b = true then te σ2 H3 fun y H4 => ∃ acc, H4 D = some (.lst acc) ∧ acc.length < sizeLine ∧ Nx (upd H4 D (.lst (acc ++ [y]))) else Nx H3) := by
  refine ⟨fun i m H => m = n - i ∧ i ≤ n ∧ Pv i H, ⟨n, Nat.sub_zero n |>.symm, Nat.zero_le _, h0⟩, ?_⟩
  rintro i m H ⟨rfl, hi, p⟩
  have q := hG i H hi p
  rcases Nat.lt_or_ge i n with hlt | hge
  · exact Or.inr ⟨w.goes i H hlt q, Pv (i + 1), fun H' p' => ⟨n - (i + 1), by omega, rfl, hlt, p'⟩, fun x H' y => hs i x H H' hlt p (w.yields i H x H' hlt q y)⟩
  · obtain rfl : i = n := Nat.le_antisymm hi hge
    exact Or.inl ⟨w.stops H q, hd H p⟩
section
variable {ι : Type} {F : ι → Cx} {P : Program} {w : World} {K : PySem.W.Frag} {mg : Str → Option Value} {base : Heap} {N : List Str} {k : Nat} {sc : Scope} {V : Wd} {cA : Str → Value} {wi : L2.WX} {cfg : List Sl} {X : Exc → Prop} {R : Sv → Prop}
/-- the turns that add to the list at D, from any heap on -/
theorem lc_turns {scope : Scope} {elt tg : Expr} {ifs : List Expr} {vs : List Nat} {tf : PyData → (List Sv → Prop) → Prop} {cf : List Sv → (Bool → Prop) → Prop} {ef : List Sv → (PyData → Prop) → Prop} {D : Addr} (nD : ¬ V.M D)
    (htg : ∀ o, ∀ d B, tf d B → TgS (FB F scope) (V.plus D o) K tg (wipeE cfg vs) vs d B)
    (hif : ∀ o cfg', (∀ c ∈ cellsOf cfg', c ∈ cellsOf cfg) → ∀ B, cf (cfg'.map absS) B → EvIfs (FB F scope) (V.plus D o) K ifs cfg' B)
    (hel : ∀ o cfg', (∀ c ∈ cellsOf cfg', c ∈ cellsOf cfg) → ∀ B, ef (cfg'.map absS) B → EvS (FB F scope) (V.plus D o) K cA wi0 elt cfg' (fun r => asD r B) X0)
    {acc0 : List L2.V} {es0 : List PyData} {H1 : Hp} {σ : L2.St} {J : It} {ds : List PyData} {Kt : List PyData → Prop} {Qd : Hp → Prop}
    (i0 : (V.plus D (.lst acc0)).I H1) (sd : Sd (V.plus D (.lst acc0)) K H1 σ cfg) (dn0 : DnAll (V.plus D (.lst acc0)) K H1 acc0 es0) (itd : IterD (V.plus D (.lst acc0)) K H1 J ds) (hw : lcW tf cf ef ds es0 Kt)
    (fin : ∀ H' acc es, (V.plus D (.lst acc)).I H' → Wx (V.plus D (.lst acc)) H1 H' → DnAll (V.plus D (.lst acc)) K H' acc es → Kt es → Qd H') :
    ∃ W : Nat → Nat → Hp → Prop, (∃ m, W 0 m H1) ∧ ∀ i m H, W i m H →
      (J.stop i H ∧ Qd H) ∨ (J.go i H ∧ ∃ Nx : Hp → Prop, (∀ H', Nx H' → ∃ m', m' < m ∧ W (i + 1) m' H') ∧ ∀ x H', J.yld i H x H' → WG (FB F scope) tg x (L2.wipe σ vs) H' fun σ2 H2 => L2.wipe σ2 vs = L2.wipe σ vs ∧ WTs (FB F scope) ifs σ2 H2 fun b H3 =>
        if b = true then WE (FB F scope) elt σ2 H3 fun y H4 => ∃ acc, H4 D = some (.lst acc) ∧ acc.length < sizeLine ∧ Nx (upd H4 D (.lst (acc ++ [y]))) else Nx H3) := by
  have mv : ∀ {o H'}, Wx (V.plus D o) H1 H' → Mv (V.plus D (.lst acc0)) H1 (V.plus D o) H' := fun {o H'} x a ob h n => ⟨x a ob n h, n⟩
  have wk : Walk J ds.length (fun H' => ∃ o, (V.plus D o).I H' ∧ Wx (V.plus D o) H1 H') (fun i H' x H2 => ∀ d, ds[i]? = some d → ∀ o, (V.plus D o).I H' → Wx (V.plus D o) H1 H' → Xt H' H2 ∧ Dn (V.plus D o) K H2 x d) := by
    refine ⟨fun i H' il ⟨o, ii, x⟩ => (itd.go i ds[i] (by simp [il]) _ H' (mv x) ii).1, fun H' ⟨o, ii, x⟩ => itd.stop _ H' (mv x), fun i H' x H2 il ⟨o, ii, xx⟩ y d hd o2 ii2 xx2 => (itd.go i d hd _ H' (mv xx2) ii2).2 x H2 y⟩
  refine lc_from wk (fun i H' => ∃ acc es, (V.plus D (.lst acc)).I H' ∧ Wx (V.plus D (.lst acc)) H1 H' ∧ DnAll (V.plus D (.lst acc)) K H' acc es ∧ lcW tf cf ef (ds.drop i) es Kt) ⟨acc0, es0, i0, Wx.refl _ _, dn0, hw⟩ ?_ ?_ ?_
  · rintro i H' _ ⟨acc, es, ii, x, _⟩
    exact ⟨_, ii, x⟩
  · rintro i x H0 H' il ⟨acc, es, ii0, xx0, dn0, hw⟩ hy
    have hd : ds[i]? = some ds[i] := by simp [il]
    obtain ⟨xt, dx⟩ := hy _ hd _ ii0 xx0
    have xw : Wx (V.plus D (.lst acc)) H0 H' := xt.wx _
    have ii := (V.plus D (.lst acc)).mono _ _ ii0 xt
    have xx := xx0.trans xw
    have dn := dn0.mono xw
    rw [List.drop_eq_getElem_cons il] at hw
    unfold lcW at hw
    have sdw : Sd (V.plus D (.lst acc)) K H' (L2.wipe σ vs) (wipeE cfg vs) := ((Sd.to (W := V.plus D (.lst acc0)) (W' := V.plus D (.lst acc)) (fun _ _ m => m) sd).wipe _).mono xx
    refine htg _ _ _ hw x _ H' ii sdw dx _ fun σ2 cfg2 sd2 c2 w2 hc => ?_
    refine ⟨w2.trans (wipe_wipe _), ?_⟩
    have cc : ∀ c ∈ cellsOf cfg2, c ∈ cellsOf cfg := fun c h => wipe_cells _ c (c2.sub c h)
    refine hif _ cfg2 cc _ hc σ2 H' ii sd2 _ fun b H3 x3 i3 hb3 => ?_
    cases b with
    | true =>
      rw [if_pos rfl] at hb3
      show WE (FB F scope) elt σ2 H3 _
      refine hel _ cfg2 cc _ hb3 σ2 H3 i3 (sd2.mono x3) _ (fun y H4 r x4 i4 d4 h4 => ?_) xo0
      obtain ⟨e, ⟨he, hw4⟩, dny⟩ := asD_dn d4 h4
      refine ⟨acc, i4.2, ?_, acc ++ [y], es ++ [e], ?_, ?_, ?_, ?_⟩
      · have := dn.length
        rw [sizeLine_eq]
        omega
      · exact ⟨V.loc _ _ i4.1 fun a m => upd_ne fun e => nD (e ▸ m), upd_same⟩
      · intro p o n h
        have n' : ¬ (V.plus D (.lst acc)).M p := n
        rw [upd_ne fun e => n (Or.inr e)]
        exact x4 p o n' (x3 p o n' (xx p o n' h))
      · have w4 : Wx (V.plus D (.lst (acc ++ [y]))) H4 (upd H4 D (.lst (acc ++ [y]))) := fun p o n h => by
          rw [upd_ne fun e => n (Or.inr e)]
          exact h
        have al : DnAll (V.plus D (.lst acc)) K H4 (acc ++ [y]) (es ++ [e]) := (dn.mono (x3.trans x4)).append (.cons dny .nil)
        exact DnAll.mono w4 (DnAll.to (W := V.plus D (.lst acc)) (W' := V.plus D (.lst (acc ++ [y]))) same_M al)
      · exact hw4
    | false =>
      rw [if_neg Bool.false_ne_true] at hb3
      show ∃ acc es, _
      exact ⟨acc, es, i3, xx.trans x3, dn.mono x3, hb3⟩
  · rintro H' ⟨acc, es, ii, xx, dn, hw⟩
    rw [List.drop_length] at hw
    unfold lcW at hw
    exact fin H' acc es ii xx dn hw.2
theorem lc_core2 (fm : Fam P w K mg base N k sc F) {elt tg it tg1 it1 : Expr} {ifs ifs1 : List Expr} {scope : Scope} {vs vs1 : List Nat} {tf : PyData → (List Sv → Prop) → Prop} {cf : List Sv → (Bool → Prop) → Prop} {sf : List Sv → (List PyData → Prop) → Prop} {tf1 : List Sv → PyData → (List Sv → Prop) → Prop} {cf1 : List Sv → (Bool → Prop) → Prop} {ef : List Sv → (PyData → Prop) → Prop}
    (src : EvI F V K cA wi tg it cfg (fun ds => lcW2 tf cf sf tf1 cf1 ef ds [] fun es => R (.own (.list es))) X)
    (htg : ∀ D o, ¬ V.M D → ∀ d B, tf d B → TgS (FB F scope) (V.plus D o) K tg (wipeE cfg vs) vs d B)
    (hif : ∀ D o cfg', ¬ V.M D → (∀ c ∈ cellsOf cfg', c ∈ cellsOf cfg) → ∀ B, cf (cfg'.map absS) B → EvIfs (FB F scope) (V.plus D o) K ifs cfg' B)
    (src1 : ∀ D o cfg', ¬ V.M D → (∀ c ∈ cellsOf cfg', c ∈ cellsOf cfg) → ∀ B, sf (cfg'.map absS) B → EvI (FB F scope) (V.plus D o) K cA wi0 tg1 it1 cfg' B X0)
    (htg1 : ∀ D o cfg', ¬ V.M D → (∀ c ∈ cellsOf cfg', c ∈ cellsOf cfg) → ∀ d B, tf1 (cfg'.map absS) d B → TgS (FB F scope) (V.plus D o) K tg1 (wipeE cfg' vs1) vs1 d B)
    (hif1 : ∀ D o cfg', ¬ V.M D → (∀ c ∈ cellsOf cfg', c ∈ cellsOf cfg) → ∀ B, cf1 (cfg'.map absS) B → EvIfs (FB F scope) (V.plus D o) K ifs1 cfg' B)
    (hel : ∀ D o cfg', ¬ V.M D → (∀ c ∈ cellsOf cfg', c ∈ cellsOf cfg) → ∀ B, ef (cfg'.map absS) B → EvS (FB F scope) (V.plus D o) K cA wi0 elt cfg' (fun r => asD r B) X0)
    (σ : L2.St) (H : Hp) (i : V.I H) (sd : Sd V K H σ cfg) (Q : VK) (q : ∀ v H' r, Wx V H H' → V.I H' → Rv V K H H' v r → R r → Q v H') (xo : XOk V K cA wi X σ H) : tLc2 (WI F tg it) (WG (FB F scope) tg) (WTs (FB F scope) ifs) (WI (FB F scope) tg1 it1) (WG (FB F scope) tg1) (WTs (FB F scope) ifs1) (WE (FB F scope) elt) vs vs1 σ H Q := by
  refine src σ H i sd _ (fun J H1 ds x1 i1 itd hl => ?_) xo
  intro D hD
  have nD : ¬ V.M D := fun m => V.has H1 D i1 m hD
  have mv : ∀ {o H'}, Wx (V.plus D o) H1 H' → Mv V H1 (V.plus D o) H' := fun {o H'} x a ob h n => by
    have ne : a ≠ D := ne_of_none h hD
    exact ⟨x a ob (fun m => m.elim n ne) h, fun m => m.elim n ne⟩
  refine ⟨fun i m H' => m = ds.length - i ∧ i ≤ ds.length ∧ ∃ acc es, (V.plus D (.lst acc)).I H' ∧ Wx (V.plus D (.lst acc)) H1 H' ∧ DnAll (V.plus D (.lst acc)) K H' acc es ∧ lcW2 tf cf sf tf1 cf1 ef (ds.drop i) es fun es => R (.own (.list es)), ⟨ds.length, Nat.sub_zero _ |>.symm, Nat.zero_le _, [], [], ⟨V.mono _ _ i1 (Xt.new hD), upd_same⟩, fun p o _ h => Xt.new hD p o h, .nil, hl⟩, ?_⟩
  rintro i m H0 ⟨rfl, il, acc, es, ii0, xx0, dn0, hw⟩
  rcases Nat.lt_or_ge i ds.length with il | ige
  · refine Or.inr ⟨(itd.go i ds[i] (by simp [il]) _ H0 (mv xx0) ii0).1, fun H' => ∃ acc es, (V.plus D (.lst acc)).I H' ∧ Wx (V.plus D (.lst acc)) H1 H' ∧ DnAll (V.plus D (.lst acc)) K H' acc es ∧ lcW2 tf cf sf tf1 cf1 ef (ds.drop (i + 1)) es fun es => R (.own (.list es)), fun H' p' => ⟨ds.length - (i + 1), by omega, rfl, il, p'⟩, fun x H' y => ?_⟩
    have hd : ds[i]? = some ds[i] := by simp [il]
    obtain ⟨xt, dx⟩ := (itd.go i _ hd _ H0 (mv xx0) ii0).2 x H' y
    have xw : Wx (V.plus D (.lst acc)) H0 H' := xt.wx _
    have ii := (V.plus D (.lst acc)).mono _ _ ii0 xt
    have xx := xx0.trans xw
    have dn := dn0.mono xw
    rw [List.drop_eq_getElem_cons il] at hw
    unfold lcW2 at hw
    have sdw : Sd (V.plus D (.lst acc)) K H' (L2.wipe σ vs) (wipeE cfg vs) := (((sd.mono x1).to (plus_of hD)).wipe _).mono xx
    refine htg D _ nD _ _ hw x _ H' ii sdw dx _ fun σ2 cfg2 sd2 c2 w2 hc => ?_
    refine ⟨w2.trans (wipe_wipe _), ?_⟩
    have cc : ∀ c ∈ cellsOf cfg2, c ∈ cellsOf cfg := fun c h => wipe_cells _ c (c2.sub c h)
    refine hif D _ cfg2 nD cc _ hc σ2 H' ii sd2 _ fun b H3 x3 i3 hb3 => ?_
    cases b with
    | true =>
      rw [if_pos rfl] at hb3
      show WI (FB F scope) tg1 it1 σ2 H3 _
      refine src1 D _ cfg2 nD cc _ hb3 σ2 H3 i3 (sd2.mono x3) _ (fun J1 H4 ds1 x4 i4 itd1 h4 => ?_) xo0
      exact lc_turns (cfg := cfg2) (tf := tf1 (cfg2.map absS)) nD (fun o d B h => htg1 D o cfg2 nD cc d B h) (fun o cfg' hs B h => hif1 D o cfg' nD (fun c hc => cc c (hs c hc)) B h) (fun o cfg' hs B h => hel D o cfg' nD (fun c hc => cc c (hs c hc)) B h) i4 (sd2.mono (x3.trans x4)) (dn.mono (x3.trans x4)) itd1 h4 fun H5 acc5 es5 i5 x5 dn5 h5 => ⟨acc5, es5, i5, (fun p o n h => x5 p o n ((xx.trans (x3.trans x4)) p o n h) : Wx (V.plus D (.lst acc5)) H1 H5), dn5, h5⟩
    | false =>
      rw [if_neg Bool.false_ne_true] at hb3
      show ∃ acc es, _
      exact ⟨acc, es, i3, xx.trans x3, dn.mono x3, hb3⟩
  · obtain rfl : i = ds.length := Nat.le_antisymm il ige
    refine Or.inl ⟨itd.stop _ H0 (mv xx0), ?_⟩
    rw [List.drop_length] at hw
    unfold lcW2 at hw
    have xv : Wx V H1 H0 := fun p o n h => xx0 p o (fun m => m.elim n fun e => ne_of_none h hD e) h
    refine q _ H0 (.own (.list es)) (x1.trans xv) ii0.1 ?_ hw.2
    refine Rv.back x1 i ⟨D, rfl, hD, nD, .lst acc, ii0.2, ?_⟩
    exact DnAll.to (W := V.plus D (.lst acc)) (W' := V.opn D) (fun _ _ m => m) dn0
end
end Dr

set_option Elab.async false
set_option linter.all false
set_option maxRecDepth 100000
set_option maxHeartbeats 1000000
namespace Dr
open PySem PySem.Spec PyProof.Rows L2 Cr

/-! ## whether a text is the small language's -/
def noStar : Expr → Bool
  | .Starred _ _ => false
  | _ => true
def noSlice : Expr → Bool
  | .Slice _ _ _ _ => false
  | .Tuple _ _ _ => false
  | _ => true
def plainT : Expr → Bool
  | .Call _ _ _ _ | .Name _ _ | .Subscript _ _ _ | .Attribute _ _ _ => true
  | _ => false
def noSet : Expr → Bool
  | .Set _ _ _ => false
  | _ => true
theorem star_of {e : Expr} {es : List Expr} {env : Env} (h : noStar e = true) : starEach (e :: es) env = (false, eval e env) :: starEach es env := by
  cases e <;> first | rfl | exact absurd h Bool.false_ne_true
theorem back_of {pos : Pos} {env : Env} : ∀ {es : List Expr}, es.all noStar = true → (backTo pos (starEach es env)).any (·.1) = false
  | [], _ => rfl
  | e :: es, h => by
    rw [List.all_cons, Bool.and_eq_true] at h
    rw [star_of h.1]
    show (false || _) = false
    rw [Bool.false_or]
    exact back_of h.2
theorem plainIx_of {b : Expr} (h : noSlice b = true) : PlainIx b := by
  intro o i
  cases b <;> first | rfl | exact absurd h Bool.false_ne_true
theorem isTrue_of {e : Expr} (h : plainT e = true) {env : Env} (whole : Sem Value) : isTrue e env whole = (do let v ← whole; standAt e.pos; holding [v] (truthy v)) := by
  cases e <;> first | rfl | exact absurd h Bool.false_ne_true
theorem noset_of {e : Expr} (h : noSet e = true) {env : Env} (x : Value) : foldedSetIterable e env x = pure x := by
  cases e <;> first | rfl | exact absurd h Bool.false_ne_true
theorem mark_of {op : CmpOp} {e : Expr} (h : noSet e = true) : behindInMarks op e = false := by
  cases e <;> first | rfl | exact absurd h Bool.false_ne_true
def okName (x : Str) : Bool := !(x == "__debug__") && !(x == "__classdict__")
theorem okName_of {x : Str} (h : okName x = true) : (x == ("__debug__" : Str)) = false ∧ (x == ("__classdict__" : Str)) = false := by
  unfold okName at h
  rw [Bool.and_eq_true, Bool.not_eq_true', Bool.not_eq_true'] at h
  exact h
def chkL (f : Ex → Expr → Bool) : List Ex → List Expr → Bool
  | [], [] => true
  | i :: is, e :: es => f i e && (noStar e && chkL f is es)
  | _, _ => false
def chkO (f : Ex → Expr → Bool) : Option Ex → Option Expr → Bool
  | none, none => true
  | some i, some e => f i e
  | _, _ => false
def chkGs (f : Tgt → Expr → Bool) : List Tgt → List Expr → Bool
  | [], [] => true
  | t :: ts, e :: es => f t e && (noStar e && chkGs f ts es)
  | _, _ => false
def chkG (N : List Str) (ok : Str → Bool) : Nat → Tgt → Expr → Bool
  | 0, _, _ => false
  | n + 1, t, e => match t, e with
    | .nm j, .Name x _ => N[j]? == some x && ok x
    | .tp ts, .Tuple es _ _ => chkGs (chkG N ok n) ts es
    | _, _ => false
def chkC : PyData → Const → Bool
  | .none, .none => true
  | .bool b, .bool d => b == d
  | .int i, .int j => i == j
  | .str s, .str u => s == u
  | _, _ => false
def chkIsi (sc : Scope) : List String → Expr → Bool
  | [T], .Name x _ => x == (T : Str) && (glB sc x && ["int", "bool", "str", "tuple", "list"].contains T)
  | [T, U], .Tuple [.Name x _, .Name y _] _ _ => (x == (T : Str) && (glB sc x && ["int", "bool", "str", "tuple", "list"].contains T)) && (y == (U : Str) && (glB sc y && ["int", "bool", "str", "tuple", "list"].contains U))
  | _, _ => false
def ownOf (N : List Str) (js : List Nat) : List (Str × Nat) := js.map fun j => (N.getD j "", j)
def isTupE : Expr → Bool
  | .Tuple _ _ _ => true
  | _ => false
mutual
def chkV (G : GI) (N : List Str) : Nat → Scope → Ex → Expr → Bool
  | 0, _, _, _ => false
  | m + 1, sc, ir, e => match ir, e with
    | .cst c, .Constant k _ _ => chkC c k
    | .var j, .Name x _ => N[j]? == some x && (visB sc x && okName x)
    | .glb i, .Name x _ => (match G.cs[i]? with | some c => c.1 == x | none => false) && (glB sc x && okName x)
    | .tup is, .Tuple es _ _ => chkL (chkV G N m sc) is es && decide (es.length ≤ 1000)
    | .lst is, .List es _ => chkL (chkV G N m sc) is es && decide (es.length ≤ 1000)
    | .dct0, .Dict [] [] _ => true
    | .bin op a b, .BinOp x o y _ => decide (op = o) && (chkV G N m sc a x && chkV G N m sc b y)
    | .cmp op a b, .Compare x [o] [y] _ => decide (op = o) && (noSet y && (chkV G N m sc a x && chkV G N m sc b y))
    | .neg a, .UnaryOp .USub x _ => chkV G N m sc a x
    | .not a, .UnaryOp .Not x _ => chkV G N m sc a x
    | .and is, .BoolOp .And es _ => chkL (chkV G N m sc) is es
    | .or is, .BoolOp .Or es _ => chkL (chkV G N m sc) is es
    | .ifx c a b, .IfExp x y z _ => chkT G N m sc c x && (chkV G N m sc a y && chkV G N m sc b z)
    | .idx a b, .Subscript x y _ => noSlice y && (chkV G N m sc a x && chkV G N m sc b y)
    | .cut a lo hi, .Subscript x (.Slice l h none _) _ => chkV G N m sc a x && (chkO (chkV G N m sc) lo l && chkO (chkV G N m sc) hi h)
    | .bi f is, .Call (.Name x _) (e :: es) [] _ => x == biName f && (glB sc x && (chkL (chkV G N m sc) is (e :: es)))
    | .isi a ts, .Call (.Name x _) [y, z] [] _ => x == ("isinstance" : Str) && (glB sc x && (noStar y && (chkV G N m sc a y && chkIsi sc ts z)))
    | .fn i is, .Call (.Name x _) (e :: es) [] _ => (match G.fns[i]? with | some c => c.1 == x && (!c.2.pot && decide (c.2.ps.length = (e :: es).length)) | none => false) && (glB sc x && (okName x && chkL (chkV G N m sc) is (e :: es)))
    | .fnP i j is, .Call (.Name x _) (.Name y _ :: es) [] _ => (match G.fns[i]? with | some c => c.1 == x && (c.2.pot && decide (c.2.ps.length = es.length + 1)) | none => false) && (glB sc x && (okName x && (N[j]? == some y && (visB sc y && (okName y && chkL (chkV G N m sc) is es)))))
    | .lc elt tg src ifs, .ListComp x [⟨y, z, us, 0⟩] scope _ => blkC N sc scope (ownOf N (slotsT 9 tg)) && (noSet z && (chkS G N m sc (isTupE y) src z && (chkG N (nmB sc scope) 9 tg y && (decide (us.length ≤ 1) && (chkL (chkT G N m (relS scope sc)) ifs us && chkV G N m (relS scope sc) elt x)))))
    | .view a, e => chkV G N m sc a e
    | .viewT a, e => chkV G N m sc a e
    | .idxO j b, .Subscript (.Name x _) y _ => N[j]? == some x && (visB sc x && (okName x && (noSlice y && chkV G N m sc b y)))
    | .lc2 elt tg src ifs tg1 src1 ifs1, .ListComp x [⟨y, z, us, 0⟩, ⟨y1, z1, us1, 0⟩] scope _ => blkC N sc scope (ownOf N (slotsT 9 tg ++ slotsT 9 tg1)) && (noSet z && (chkS G N m sc (isTupE y) src z && (chkG N (nmB sc scope) 9 tg y && (decide (us.length ≤ 1) && (chkL (chkT G N m (relS scope sc)) ifs us && (noSet z1 && (chkS G N m (relS scope sc) (isTupE y1) src1 z1 && (chkG N (nmB sc scope) 9 tg1 y1 && (decide (us1.length ≤ 1) && (chkL (chkT G N m (relS scope sc)) ifs1 us1 && chkV G N m (relS scope sc) elt x))))))))))
    | .cmp2 o1 o2 a b c, .Compare x [p1, p2] [y, z] _ => decide (o1 = p1) && (decide (o2 = p2) && (noSet z && (chkV G N m sc a x && (chkV G N m sc b y && chkV G N m sc c z))))
    | .sset a, .Call (.Name x _) [.Call (.Name y _) [e] [] _] [] _ => x == ("sorted" : Str) && (y == ("set" : Str) && (glB sc x && (glB sc y && (noStar e && chkV G N m sc a e))))
    | .dget a b, .Subscript x y _ => noSlice y && (chkV G N m sc a x && chkV G N m sc b y)
    | .get2 a b c, .Call (.Attribute (.Name x p1) at_ apos) [e, f] [] pos => at_ == ("get" : Str) && (noStar e && (noStar f && (apos.endLine == pos.line && (chkV G N m sc a (.Name x p1) && (chkV G N m sc b e && chkV G N m sc c f)))))
    | _, _ => false
def chkT (G : GI) (N : List Str) : Nat → Scope → Ex → Expr → Bool
  | 0, _, _, _ => false
  | m + 1, sc, ir, e => match ir, e with
    | .cmp op a b, .Compare x [o] [y] _ => decide (op = o) && (noSet y && (chkV G N m sc a x && chkV G N m sc b y))
    | .not a, .UnaryOp .Not x _ => chkT G N m sc a x
    | .and is, .BoolOp .And es _ => chkL (chkT G N m sc) is es
    | .or is, .BoolOp .Or es _ => chkL (chkT G N m sc) is es
    | .viewT a, e => chkT G N m sc a e
    | .cmp2 o1 o2 a b c, .Compare x [p1, p2] [y, z] _ => decide (o1 = p1) && (decide (o2 = p2) && (noSet z && (chkV G N m sc a x && (chkV G N m sc b y && chkV G N m sc c z))))
    | ir, e => plainT e && chkV G N m sc ir e
def chkS (G : GI) (N : List Str) : Nat → Scope → Bool → Ex → Expr → Bool
  | 0, _, _, _, _ => false
  | m + 1, sc, t, ir, e => match ir, e with
    | .rng a, .Call (.Name x _) [y] [] _ => x == ("range" : Str) && (glB sc x && (noStar y && chkV G N m sc a y))
    | .zip a b, .Call (.Name x _) [y, z] [] _ => x == ("zip" : Str) && (glB sc x && (t && (noStar y && (noStar z && (chkV G N m sc a y && chkV G N m sc b z)))))
    | .enu a, .Call (.Name x _) [y] [] _ => x == ("enumerate" : Str) && (glB sc x && (t && (noStar y && chkV G N m sc a y)))
    | .enuT a, .Call (.Name x _) [y] [] _ => x == ("enumerate" : Str) && (glB sc x && (t && (noStar y && chkV G N m sc a y)))
    | ir, e => chkV G N m sc ir e
end
structure COk (V : Wd) (cfg : List Sl) : Prop where
  mem : ∀ c ∈ cellsOf cfg, V.M c.1
  pin : ∀ H, V.I H → ∀ c ∈ cellsOf cfg, H c.1 = some c.2
def PotOk (G : GI) (V : Wd) (cfg : List Sl) : Prop := ∀ t, G.pot = some t → Draws V t.1 t.2.1 t.2.2 ∧ ∀ c ∈ cellsOf cfg, c.1 ≠ t.1 ∧ c.1 ≠ t.2.1
/-- the errors: with a place, or without any field -/
def ExOk (P : Program) (K : PySem.W.Frag) (mg : Str → Option Value) (cA : Str → Value) (x : Str) (b : Bool) : Prop := ∃ C, cA x = .ref C ∧ (if b = true then ∃ m fI, PySem.SupX.SupTxt P K mg x m C fI else ExcC K mg x C)
structure GOk (P : Program) (w : World) (K : PySem.W.Frag) (mg : Str → Option Value) (base : Heap) (cA : Str → Value) (k : Nat) (G : GI) : Prop where
  hs : (base.get? sysModules).isSome = true
  bl : MgOk mg
  fn : ∀ (i : Nat) c, G.fns[i]? = some c → OwnC P w K mg base cA c.1 c.2 ∧ c.2.lvl ≤ k
  cs : ∀ (i : Nat) c, G.cs[i]? = some c → ∃ u v, mg c.1 = some u ∧ RelV v u ∧ DC K v c.2
  xs : ∀ (i : Nat) c, G.xs[i]? = some c → ExOk P K mg cA c.1 c.2
end Dr

set_option Elab.async false
set_option linter.all false
set_option maxRecDepth 100000
set_option maxHeartbeats 4000000
namespace Dr
open PySem PySem.Spec PyProof.Rows L2 Cr
section
variable {P : Program} {w : World} {A : Around} {E : Value → Shared → Prop} {s : Shared}
/-- a new set's object -/
abbrev nSet (w : World) : Obj := { cls := .type "set", dict := none, data := .set #[] 0 (.fresh 0 0 (!w.params.followText "set-order")) }
set_option maxHeartbeats 8000000 in
/-- set(l) of a list of hin: as the library's one of a tuple, done anew -/
theorem set_of_list {l : Addr} {its : Array Value} (ns : List Int) {Q : Value → Shared → Prop} (noH : A.handled = none) (isL : s.heap.IsList l its) (hin : IntsAre its.toList ns) (room : ns.length + 1 < scanBound)
    (fin : ∀ (hp : Heap) (t c : Nat), SetR w hp s.heap.objs.size (fun j => decide (j ∈ ns)) c → c ≤ ns.length → (∀ b o, s.heap.get? b = some o → hp.get? b = some o) → Q (.ref s.heap.objs.size) { s with heap := hp, toks := t }) :
    wpAny (model P w) A (call (.type "set") [.ref l]) Q E s := by
  have size : its.size = ns.length := by rw [← IntsAre.length hin, Array.length_toList]
  obtain ⟨c0, tl0, mro0⟩ := F.called_set.mro
  have k1 := F.called_set.made
  have k2 := F.called_set.sub
  refine wpAny_call (codeAny_of_tree (show wpAny _ _ (callAny (.type "set") _) _ _ _ from wpAny_pure ⟨Code.quiet_builtin _ (by decide +kernel), codeAny_builtin F.entry_type_call ?_⟩))
  rw [Around.under_plain (weight_type_call_type "set" [.ref l] []) rfl]
  have k3 := F.called_set.notType
  have k4 := F.called_set.canCreate
  have k5 := F.typeCall_set_1 (.ref l)
  repeat any_goals first | assumption | wp_step
  refine codeAny_mono (code_set_led1 (.ref l) (E := E) (Q₁ := fun v z => v = .ref s.heap.objs.size ∧ z = { s with heap := s.heap.push (nSet w) }) ⟨rfl, rfl⟩) fun r z hr => ?_
  match r, hr with
  | .error e, hr => exact hr
  | .ok (.ret v), ⟨ev, ez⟩ =>
    subst ev ez
    have at0 : (s.heap.push (nSet w)).get? s.heap.objs.size = some (nSet w) := Heap.get?_push_size _ rfl
    have ty0 : Shared.TypeIs { s with heap := s.heap.push (nSet w) } (.ref s.heap.objs.size) "set" := ⟨_, at0, rfl⟩
    have k6 := F.called_set.init.lookup
    have k7 := F.called_set.init.bind (.ref s.heap.objs.size)
    repeat any_goals first | assumption | wp_step
    refine codeAny_mono (codeAny_call_builtin (R := wants (fun v z => v = .none ∧ ∃ hp t c, z = { s with heap := hp, toks := t } ∧ SetR w hp s.heap.objs.size (fun j => decide (j ∈ ns)) c ∧ c ≤ ns.length ∧ ∀ b o, s.heap.get? b = some o → hp.get? b = some o) E) F.called_set.init.plain F.entry_set_init (check_set_init_1 ty0 ?_)) fun r2 z2 hr2 => ?_
    · obtain ⟨⟨oc, od, odt, osl⟩, lo, lc, ln, ld⟩ := isL
      simp only at lc ld
      subst lc ld
      have lo1 : (s.heap.push (nSet w)).get? l = some { cls := .type "list", dict := od, data := .seq its ln, slots := osl } := Heap.get?_push_of_some _ lo
      have isL1 : (s.heap.push (nSet w)).IsList l its := ⟨_, lo1, rfl, ln, rfl⟩
      have n1 := F.sub_list_set
      have n2 := F.sub_list_frozenset
      have n3 : (Value.type "list" == Value.type "dict") = false := by decide
      unfold Builtin.«set.__init__» noKeywords Builtin.Frozenset.updateFrom
      generalize ePI : pyIter = PI
      wp_walk
      subst ePI
      refine wpAny_pyIter_list isL1 (wpAny_bind (wpAny_runValue ?_))
      have ltL : l < s.heap.objs.size := Heap.lt_size lo
      have sz1 : (s.heap.push (nSet w)).objs.size = s.heap.objs.size + 1 := Heap.size_push ..
      have noH3 : A.in1.in1.in1.handled = none := by simp [noH]
      have neI : l ≠ (s.heap.push (nSet w)).objs.size := by rw [sz1]; exact Nat.ne_of_lt (Nat.lt_succ_of_lt ltL)
      have notIn : s.heap.objs.size ∉ [(s.heap.push (nSet w)).objs.size, l] := by
        rw [sz1]
        intro m
        rcases List.mem_cons.mp m with m | m
        · exact Nat.ne_of_lt (Nat.lt_succ_self _) m
        · exact Nat.ne_of_gt ltL (List.mem_singleton.mp m)
      have vals : ∀ (i : Nat) (v : Value), its[i]? = some v → ∃ k t, ns[i]? = some k ∧ v = .int k t := fun i v hv => by
        have il : i < ns.length := by rw [← size]; exact (Array.getElem?_eq_some_iff.mp hv).1
        obtain ⟨t, e⟩ := PyProof.Rows.IntsAre.int_at hin i v (by rw [Array.getElem?_toList]; exact hv)
        have g : ns.getD i 0 = ns[i] := by rw [List.getD_eq_getElem?_getD, List.getElem?_eq_getElem il]; rfl
        exact ⟨ns[i], t, List.getElem?_eq_getElem il, by rw [e, g]⟩
      refine set_update_ints ((Walks.list noH3 _ l neI its).toS) s.heap.objs.size notIn ns size room vals (its.size - 0) 0 _ (by omega) (Nat.zero_le _) ⟨⟨_, Heap.get?_push_size _ rfl, rfl, rfl⟩, isL1.push _⟩ ⟨0, Nat.le_refl 0, setR_new_at (Heap.get?_push_of_some _ at0)⟩ fun z3 c3 mv le3 S3 => ?_
      obtain ⟨hp3, g3, d3, t3, o3⟩ := z3
      cases (show g3 = s.gens from mv.gens)
      cases (show d3 = s.drawn from mv.drawn)
      cases (show o3 = s.os from mv.os)
      refine wpAny_pure (show wpAny _ _ (ret Value.none) _ _ _ from wpAny_pure ⟨rfl, hp3, t3, c3, rfl, S3, by omega, fun b o e => ?_⟩)
      have lb : b < s.heap.objs.size := Heap.lt_size e
      refine mv.heap b o (fun m => ?_) (Heap.get?_push_of_some _ (Heap.get?_push_of_some _ e))
      rcases List.mem_cons.mp m with m | m
      · exact Nat.ne_of_lt lb m
      · have e3 := List.mem_singleton.mp m
        rw [sz1] at e3
        exact Nat.ne_of_lt (Nat.lt_succ_of_lt lb) e3
    · match r2, hr2 with
      | .error e, hr2 => exact hr2
      | .ok (.ret v), ⟨ev, hp, t, c, ez, S, le, keep⟩ =>
        subst ev ez
        repeat any_goals first | assumption | wp_step
        exact fin _ _ _ S le keep
end
end Dr

set_option Elab.async false
set_option linter.all false
set_option maxRecDepth 100000
set_option maxHeartbeats 4000000
namespace Dr
open PySem PySem.Spec PyProof.Rows L2 Cr
/-! ## enumerate(t), t a tuple -/
abbrev itT (t : Addr) : Obj := { cls := .type "tuple_iterator", data := .fields #[.ref t, .int 0 0] }
abbrev enuO (i : Addr) : Obj := { cls := .type "enumerate", data := .fields #[.none, .bool false, .ref i, rawInt 0, .none, .none] }
/-- what enumerate.__new__ makes of a tuple -/
theorem enu_new (t : Addr) (its : Array Value) (n : Nat) (dc : Option Addr) (sl : Array (Option Value)) :
    Meets (Builtin.«enumerate.__new__» ⟨[.type "enumerate", .ref t], []⟩) (fun _ R s => s.heap.get? t = some { cls := .type "tuple", dict := dc, data := .seq its n, slots := sl } ∧ R (.ok (.ret (.ref (s.heap.push (itT t)).objs.size))) { s with heap := (s.heap.push (itT t)).push (enuO s.heap.objs.size) }) :=
  .of_wp fun prog w A R s h => by
    obtain ⟨hp, g, d, tk, os⟩ := s
    obtain ⟨at_, h⟩ := h
    have sub := sub_enumerate
    have isT : Heap.IsTuple (Shared.heap ⟨hp, g, d, tk, os⟩) t its := ⟨_, at_, rfl, n, rfl⟩
    wp_walk using wpAny_loadPart' at_
    refine wpAny_stack_any fun st => wpAny_pure ?_
    split
    · rename_i c _ _ _ _ _
      cases (c == Value.type "enumerate") <;> (wp_walk using wpAny_loadPart' at_, wpAny_pyIter_tuple isT; exact ⟨_, rfl, h⟩)
    · wp_walk using wpAny_loadPart' at_, wpAny_pyIter_tuple isT; exact ⟨_, rfl, h⟩
section
variable {prog : Program} {w : World} {A : Around} {E : Value → Shared → Prop} {s : Shared}
theorem enu_call {t : Addr} {its : Array Value} {Q : Value → Shared → Prop} (isT : s.heap.IsTuple t its)
    (h : ∀ h', IsEnum h' (s.heap.objs.size + 1) s.heap.objs.size 0 .none → h'.IsTupleIter s.heap.objs.size t 0 → (∀ b o, s.heap.get? b = some o → h'.get? b = some o) → Q (.ref (s.heap.objs.size + 1)) { s with heap := h' }) :
    wpAny (model prog w) A (call (.type "enumerate") [.ref t]) Q E s := by
  obtain ⟨⟨c, dc, dt, sl⟩, at_, hc, n, hd⟩ := isT
  cases (show c = .type "tuple" from hc)
  cases (show dt = .seq its n from hd)
  refine callType_new F.called_enumerate (by decide) (F.typeCall_enumerate_1 _) (F.newCall_enumerate_1 _) (fun obj => F.args_object_init_2 obj _) F.entry_enumerate_new (enu_new t its n dc sl) ⟨at_, ?_⟩
  have sz : (s.heap.push (itT t)).objs.size = s.heap.objs.size + 1 := Heap.size_push ..
  show _ ∧ _
  rw [sz]
  have en : IsEnum ((s.heap.push (itT t)).push (enuO s.heap.objs.size)) (s.heap.objs.size + 1) s.heap.objs.size 0 .none := by
    have q := Heap.get?_push_size (s.heap.push (itT t)) (o := enuO s.heap.objs.size) rfl
    rw [sz] at q
    exact q
  exact ⟨⟨_, en, rfl⟩, h _ en ⟨_, Heap.get?_push_of_some _ (Heap.get?_push_size _ rfl), rfl, rfl⟩ fun b o x => Heap.get?_push_of_some _ (Heap.get?_push_of_some _ x)⟩
end
/-- the tuple at a, each item in a new pair -/
def ItT (K : PySem.W.Frag) (a : Addr) : It where
  go i H := ∃ (xs : List L2.V) (x : L2.V), SqT K H a xs ∧ xs[i]? = some x
  yld i H v H' := ∃ T x, v = .ref T ∧ H T = none ∧ H' = upd H T (.tup [.int (i : Nat), x]) ∧ ∀ xs, SqT K H a xs → xs[i]? = some x
  stop i H := ∃ xs : List L2.V, SqT K H a xs ∧ xs.length = i
theorem turn_enuT {P : Program} {w : World} {K : PySem.W.Frag} {elts : List Expr} {kk : Nat} {tpos : Pos} (a e it : Addr) (hae : a ≠ it) (hea : e ≠ a) :
    Turn P w K (.Tuple elts kk tpos) (ItT K a) [e, it] e (fun i h => (∃ old, IsEnum h e it ((i : Nat) : Int) old) ∧ h.IsTupleIter it a i ∧ e ≠ it) where
  mem := by simp
  obj := fun i h st b hb => by
    obtain ⟨⟨old, he⟩, ⟨o, ho, hc, hd⟩, _⟩ := st
    rcases List.mem_cons.mp hb with z | z
    · rw [z]; exact ⟨_, he, fun v q => nomatch q⟩
    · rw [List.mem_singleton.mp z]; exact ⟨o, ho, fun v q => by rw [hd] at q; cases q⟩
  keep := fun i h h' ⟨⟨old, he⟩, hi, hne⟩ k => ⟨⟨old, k e (by simp) _ he⟩, hi.at fun o q => k it (by simp) o q, hne⟩
  item := by
    intro X hP hw hK hc i pins s σ H E I hf st hg
    subst hP hw hK
    obtain ⟨⟨old, he⟩, hit, hne⟩ := st
    obtain ⟨xs, x, hq, hx⟩ := hg
    obtain ⟨its, rv, p, hz⟩ := I.tuple hq
    obtain ⟨u, hu, ru⟩ := rv.get hx
    have lte : e < s.heap.objs.size := Heap.lt_size he
    have lti : it < s.heap.objs.size := by obtain ⟨_, q, _⟩ := hit; exact Heap.lt_size q
    have p' : s.heap.IsTuple a its.toArray := p
    have D := Draws.tuple (prog := X.prog) (w := X.w) (A := X.A.in1) (I.ok.hd hc) it a hae its.toArray
    have il : i < its.toArray.size := by rw [List.size_toArray]; exact (List.getElem?_eq_some_iff.mp hu).1
    refine wpAny_pyNext_enum_itemD D he ⟨hit, p'⟩ il hne (fun m => by
      rcases List.mem_cons.mp m with m | m
      · exact hne m
      · exact hea (List.mem_singleton.mp m)) fun x2 h2 tk hP2 ho2 st2 hT2 hz2 hk2 => ⟨_, rfl, wpAny_letOwnedTupleGo_enum (s := { s with heap := h2, toks := tk + 1 }) ho2 fun h3 he3 sb => ?_⟩
    have ex : x2 = u := by
      have q : its[i]? = some x2 := by simpa using hP2
      rw [hu] at q
      exact (Option.some.inj q).symm
    subst ex
    have hT3 : h3.get? s.heap.objs.size = some { cls := .type "tuple", data := .seq #[.int i tk, x2] } := (sb.2 _ (Nat.ne_of_gt lte)).trans hT2
    have fresh : H s.heap.objs.size = none := I.hok.fresh (Nat.le_refl _)
    have new : ObjOk X.prog X.w (upd H s.heap.objs.size (.tup [.int (i : Nat), x])) h3 s.heap.objs.size (.tup [.int (i : Nat), x]) := ⟨by show 2 ≤ sizeLine; decide, [.int i tk, x2], .cons ⟨_, rfl⟩ (.cons ru .nil), ⟨_, hT3, rfl, _, rfl⟩⟩
    have I3 : Inv X pins σ (upd H s.heap.objs.size (.tup [.int (i : Nat), x])) { s with heap := h3, toks := tk + 1 } :=
      I.turnedNew (ch := [e, it]) (fun b ob hb q => by
        have b1 : b ≠ e := fun z => hb (by simp [z])
        have b2 : b ≠ it := fun z => hb (by simp [z])
        exact (sb.2 b b1).trans (hk2 b ob b1 b2 q)) hf (Nat.le_refl _) new
    refine ⟨.ref s.heap.objs.size, _, I3, rfl, ⟨_, x, rfl, fresh, rfl, fun ys hy => by rw [I.tuple_inj hy hq]; exact hx⟩, ⟨⟨x2, ?_⟩, st2.1.at fun o q => (sb.2 it (Ne.symm hne)).trans q, hne⟩, fun b hb => ?_⟩
    · rw [show ((i + 1 : Nat) : Int) = (i : Int) + 1 by omega]
      exact he3
    · have lb : b < s.heap.objs.size := by
        rcases List.mem_cons.mp hb with z | z
        · rw [z]; exact lte
        · rw [List.mem_singleton.mp z]; exact lti
      rw [upd_ne (Nat.ne_of_lt lb)]
      exact (hf b hb).1
  done := by
    intro X hP hw hK hc i pins s σ H E I hf st hg
    subst hP hw hK
    obtain ⟨⟨old, he⟩, hit, hne⟩ := st
    obtain ⟨xs, hq, hx⟩ := hg
    obtain ⟨its, rv, p, hz⟩ := I.tuple hq
    have p' : s.heap.IsTuple a its.toArray := p
    have D := Draws.tuple (prog := X.prog) (w := X.w) (A := X.A.in1) (I.ok.hd hc) it a hae its.toArray
    have sz : its.toArray.size = i := by rw [List.size_toArray, ← hx, rv.length]
    obtain ⟨f0, f1, f2, f3, f4, f5⟩ := hf it (by simp)
    exact wpAny_pyNext_enum_endD D he (by rw [sz]; exact ⟨hit, p'⟩) fun h' eb => ⟨rfl, I.turned (t' := s.toks) (fun b o hb q => eb b o hb q) f0 f1 f3 f4 f5⟩
  self := fun A i s Q E ⟨⟨_, he⟩, _⟩ h => wpAny_pyIter_enum he h
def iEnT (K : PySem.W.Frag) (ta : TA) : TI := fun σ H R => ta σ H fun vs H1 => ∃ a xs, vs = [.ref a] ∧ SqT K H1 a xs ∧ R (ItT K a) H1
theorem pi_enuT {X : Cx} {e : Expr} {ta : TA} {p pos tpos : Pos} {elts : List Expr} {kk : Nat} (hg : Gl X "enumerate") (hm : X.mg "enumerate" = none) (ha : PA X [e] ta) (hs : starEach [e] X.env = [(false, eval e X.env)]) :
    PI X (.Tuple elts kk tpos) (.Call (.Name "enumerate" p) [e] [] pos) (iEnT X.K ta) := by
  refine ⟨fun pins s σ H R I h => Call_ (ld_blt I hg hm boot_enumerate (PyProof.Rows.callWith_type1 (thn (ha.run pos pins s σ H _ I h) fun us s1 ⟨vs, H1, I1, r1, q1⟩ => ?_) hs rfl))⟩
  obtain ⟨a, xs, ex, hq, q⟩ := q1
  subst ex
  cases r1 with
  | cons r rr =>
    cases rr
    cases r
    obtain ⟨its, rv, p', hz⟩ := I1.tuple hq
    have isT : s1.heap.IsTuple a its.toArray := p'
    have lta : a < s1.heap.objs.size := by obtain ⟨⟨_, _, _, _⟩, q, _⟩ := isT; exact Heap.lt_size q
    refine enu_call isT fun h' he hit hk => wpAny_pyIter_enum he ?_
    have I2 : Inv X pins σ H1 { s1 with heap := h' } := I1.kept (t' := s1.toks) hk
    refine ⟨s1.heap.objs.size + 1, [s1.heap.objs.size + 1, s1.heap.objs.size], _, _, H1, rfl, I2, turn_enuT a (s1.heap.objs.size + 1) s1.heap.objs.size (Nat.ne_of_lt lta) (Nat.ne_of_gt (Nat.lt_succ_of_lt lta)), ⟨⟨.none, he⟩, hit, Nat.succ_ne_self _⟩, fun b hb => ?_, q⟩
    have le : s1.heap.objs.size ≤ b := by
      rcases List.mem_cons.mp hb with z | z
      · rw [z]; exact Nat.le_add_right _ _
      · rw [List.mem_singleton.mp z]; exact Nat.le_refl _
    exact I1.fpOk le (I1.hok.fresh le)
section
variable {ι : Type} {F : ι → Cx} {P : Program} {w : World} {K : PySem.W.Frag} {mg : Str → Option Value} {base : Heap} {N : List Str} {k : Nat} {sc : Scope} {V : Wd} {cA : Str → Value} {wi : L2.WX} {cfg : List Sl} {X : Exc → Prop}
theorem walk_enuT {a : Addr} {xs : List L2.V} : Walk (ItT K a) xs.length (fun H => SqT K H a xs) (YPair (fun i => some (.int (i : Nat))) (fun i => xs[i]?)) :=
  ⟨fun i _ il q => ⟨xs, xs[i], q, by simp [il]⟩, fun _ q => ⟨xs, q, rfl⟩, fun i H v H' _ q ⟨T, x, h1, h2, h3, h4⟩ => ⟨T, .int (i : Nat), x, h1, h2, h3, rfl, h4 xs q⟩⟩
theorem ei_enuT (fm : Fam P w K mg base N k sc F) {elts : List Expr} {kk : Nat} {tpos : Pos} {a : Expr} {p pc : Pos} {B : List PyData → Prop} (h : EvS F V K cA wi a cfg (fun r => asD r fun d => ∃ ds, d = .tuple ds ∧ B (enuL ds)) X) (hm : mg "enumerate" = none)
    (hg : glB sc "enumerate" = true) (st : ∀ i, starEach [a] (F i).env = [(false, eval a (F i).env)]) : EvI F V K cA wi (.Tuple elts kk tpos) (.Call (.Name "enumerate" p) [a] [] pc) cfg B X := by
  intro σ H i sd Q q xo
  refine ⟨iEnT K (WA F [a]), fun z => by have := pi_enuT (p := p) (pos := pc) (tpos := tpos) (elts := elts) (kk := kk) (gl_of (fm.es z) hg) (by rw [fm.mg z]; exact hm) (wa_pa (F := F) (es := [a]) z) (st z); rwa [fm.kk z] at this, ?_⟩
  refine ⟨tCons (WE F a) tNil, fun z => pa_cons (we_pe z) pa_nil (by rw [st z]; rfl), ?_⟩
  refine h σ H i sd _ (fun v H1 r x1 i1 rv hr => ?_) xo
  obtain ⟨d, ⟨ds, rfl, hb⟩, dn⟩ := asD_dn rv hr
  cases dn with
  | tup la da => exact ⟨_, _, rfl, la.sq, q _ H1 _ x1 i1 (iter_enum walk_enuT da fun U H2 z => (ta_move z la).sq) hb⟩
end
end Dr

set_option Elab.async false
set_option linter.all false
set_option maxRecDepth 100000
set_option maxHeartbeats 4000000
namespace Dr
open PySem PySem.Spec PyProof.Rows L2 Cr
/-! ## further rules -/
/-! ### sorted(set(e)), ints -/
def tSset (K : PySem.W.Frag) (ta : TE) : TE := fun σ H Q => ta σ H fun x H1 => ∃ (l : Addr) (ns : List Int), x = .ref l ∧ (SqT K H1 l (ns.map V.int) ∨ SqL K H1 l (ns.map V.int)) ∧ ns.length < 64 ∧
  ∀ (out : List Int) (p : Addr), out.Pairwise (· < ·) → (∀ k, k ∈ out ↔ k ∈ ns) → H1 p = none → Q (.ref p) (upd H1 p (.lst (out.map V.int)))
theorem pe_sset {X : Cx} {a : Expr} {ta : TE} {p p2 q pos : Pos} (hc : X.calm = true) (hg : Gl X "sorted") (hm : X.mg "sorted" = none) (hg2 : Gl X "set") (hm2 : X.mg "set" = none) (ha : PE X a ta) (na : starEach [a] X.env = (false, eval a X.env) :: starEach [] X.env) : PE X (.Call (.Name "sorted" p) [.Call (.Name "set" p2) [a] [] q] [] pos) (tSset X.K ta) := by
  have nb : starEach [.Call (.Name "set" p2) [a] [] q] X.env = (false, eval (.Call (.Name "set" p2) [a] [] q) X.env) :: starEach [] X.env := rfl
  refine ⟨fun pins s σ H Q I h => ?_⟩
  refine Call_ (ld_blt I hg hm (by decide +kernel : bootBuiltins "sorted" = some (.builtin "sorted")) (PyProof.Rows.callWith_builtin1 (PyProof.Rows.args_cons (Call_ (ld_blt I hg2 hm2 (by decide +kernel : bootBuiltins "set" = some (.type "set")) (PyProof.Rows.callWith_type1 (PyProof.Rows.args_cons (thn (ha.run pins s σ H _ I h) fun v s1 ⟨x, H1, I1, r1, q1⟩ => PyProof.Rows.args_nil ?_) na) na rfl))) nb) nb rfl))
  obtain ⟨l, ns, rfl, hq, hl, q1⟩ := q1
  cases r1
  have hh := I1.ok.hd hc
  have fin : ∀ (h' : Heap) (tk c : Nat), SetR X.w h' s1.heap.objs.size (fun j => decide (j ∈ ns)) c → c ≤ ns.length → (∀ b o, s1.heap.get? b = some o → h'.get? b = some o) →
      wpAny (model X.prog X.w) X.A (call (.builtin "sorted") [.ref s1.heap.objs.size]) (EP X pins σ Q) X.xe { s1 with heap := h', toks := tk } := fun h' tk c R hcn hk => by
    have I2 : Inv X pins σ H1 { s1 with heap := h', toks := tk } := I1.kept hk
    refine sorted_set R hh (by omega) fun s' p' out c' ks k g o hp hgp hi hs hm' hl' => ?_
    have hlen : (ks.map V.int).length ≤ sizeLine := by rw [List.length_map, hl', sizeLine_eq]; omega
    have hn : H1 p' = none := I2.hok.fresh hp
    have J := I2.call (g' := s'.gens) (t' := s'.toks) (d' := s'.drawn) (ch := []) (Un.laid (o := .lst (ks.map V.int)) k hp hn) (I2.hok.laid (o := .lst (ks.map V.int)) k hp ⟨hlen, out.toList, c', vals_of_ints hi, hgp⟩) (by rw [g]; exact I2.bare) (fun _ z => nomatch z)
    have e : s' = { s1 with heap := s'.heap, gens := s'.gens, drawn := s'.drawn, toks := s'.toks } := by
      obtain ⟨_, _, _, _, _⟩ := s'
      obtain ⟨_, _, _, _, _⟩ := s1
      cases o
      rfl
    rw [e]
    exact ⟨.ref p', _, J, rfl, q1 ks p' hs (fun k => by rw [hm' k]; simp) hn⟩
  rcases hq with hq | hq
  · obtain ⟨its, r, pl, hz⟩ := I1.tuple hq
    exact call_set_tupI ns hh (show s1.heap.IsTuple l its.toArray from pl) (by simpa using RZ.intsAre_vals r) (by unfold scanBound; omega) fun h' tk c R hcn hk => PyProof.Rows.args_nil (fin h' tk c R hcn hk)
  · obtain ⟨its, r, pl, hz⟩ := I1.list hq
    exact set_of_list ns hh pl.isList (by simpa using RZ.intsAre_vals r) (by unfold scanBound; omega) fun h' tk c R hcn hk => PyProof.Rows.args_nil (fin h' tk c R hcn hk)
section
variable {ι : Type} {F : ι → Cx} {P : Program} {w : World} {K : PySem.W.Frag} {mg : Str → Option Value} {base : Heap} {N : List Str} {k : Nat} {sc : Scope} {V : Wd} {cA : Str → Value} {wi : L2.WX} {cfg : List Sl} {X : Exc → Prop} {R : Sv → Prop}
theorem es_sset (fm : Fam P w K mg base N k sc F) {e : Expr} {p p2 q pos : Pos} (h : EvS F V K cA wi e cfg (fun r => asD r fun d => ssetW d fun z => R (.own z)) X) (hm : mg "sorted" = none) (hm2 : mg "set" = none) (hg : glB sc "sorted" = true) (hg2 : glB sc "set" = true) (st : noStar e = true) :
    EvS F V K cA wi (.Call (.Name "sorted" p) [.Call (.Name "set" p2) [e] [] q] [] pos) cfg R X := by
  intro σ H i sd Q qq xo
  refine ⟨tSset K (WE F e), fun z => ?_, ?_⟩
  · have := pe_sset (X := F z) (p := p) (p2 := p2) (q := q) (pos := pos) (fm.ca z) (gl_of (fm.es z) hg) (by rw [fm.mg z]; exact hm) (gl_of (fm.es z) hg2) (by rw [fm.mg z]; exact hm2) (we_pe (F := F) (e := e) z) (star_of st)
    rwa [fm.kk z] at this
  · refine h σ H i sd _ (fun v H1 r x1 i1 rv hr => ?_) xo
    obtain ⟨d, ⟨ns, hd, hl, hk⟩, dn⟩ := asD_dn rv hr
    have fin : ∀ (out : List Int) (p : Addr), out.Pairwise (· < ·) → (∀ k, k ∈ out ↔ k ∈ ns) → H1 p = none → Q (.ref p) (upd H1 p (.lst (out.map L2.V.int))) := fun out p h1 h2 hp => by
      obtain ⟨x2, i2, rv⟩ := new_own x1 i1 hp (ints_dn out)
      exact qq _ _ (.own _) x2 i2 (rv.back x1 i) (hk out h1 h2)
    rcases hd with rfl | rfl
    · cases dn with
      | lst la da =>
        have e := dn_ints da
        subst e
        exact ⟨_, ns, rfl, Or.inr la.sq, hl, fin⟩
    · cases dn with
      | tup la da =>
        have e := dn_ints da
        subst e
        exact ⟨_, ns, rfl, Or.inl la.sq, hl, fin⟩
/-! ### a < b < c -/
theorem es_cmp2 (fm : Fam P w K mg base N k sc F) (hs : (base.get? sysModules).isSome = true) {a b c : Expr} {o1 o2 : CmpOp} {pos : Pos} {Ra Rc : Sv → Prop} {Bc : Prop} (ha : EvS F V K cA wi a cfg Ra X)
    (m : ∀ r, Ra r → asD r fun x => EvS F V K cA wi b cfg (fun r => asD r fun y => cmpW o1 x y fun t => if t = true then EvS F V K cA wi c cfg (fun r => asD r fun z => cmpW o2 y z fun u => R (.dat (.bool u))) X else R (.dat (.bool false))) X) (hm : noSet c = true) :
    EvS F V K cA wi (.Compare a [o1, o2] [b, c] pos) cfg R X := by
  intro σ H i sd Q q xo
  have mk : lastMarks [o1, o2] [b, c] = false := by
    show behindInMarks o2 c = false
    exact mark_of hm
  refine ⟨tChain (WO F (compareOp o1)) (WO F (compareOp o2)) (WE F a) (WE F b) (WE F c), fun z => pe_chain (wo_op z) (wo_op z) (we_pe z) (we_pe z) (we_pe z) mk, ?_⟩
  refine two_all ha m σ H i sd (fun _ => True) _ (fun v u H' x y x1 i1 dx dy h => ?_) xo
  refine cmp_ok fm hs h H' v u i1 dx dy _ fun v' H3 r x3 i3 d3 h3 => ?_
  obtain ⟨t, rfl, ht⟩ := h3
  obtain ⟨_, e, dn⟩ := d3
  cases e
  cases dn
  refine ⟨t, rfl, ?_⟩
  cases t with
  | true =>
    rw [if_pos rfl] at ht ⊢
    refine ht σ H3 i3 (sd.mono (x1.trans x3)) _ (fun v2 H4 r2 x4 i4 rv2 hr2 => ?_) (xo.mono (x1.trans x3))
    obtain ⟨z, hz, dz⟩ := asD_dn rv2 hr2
    refine cmp_ok fm hs hz H4 u v2 i4 (dy.mono (x3.trans x4)) dz _ fun v5 H5 r5 x5 i5 d5 h5 => ?_
    obtain ⟨w5, rfl, hw⟩ := h5
    obtain ⟨_, e, dn⟩ := d5
    cases e
    exact q v5 H5 (.dat (.bool w5)) (((x1.trans x3).trans x4).trans x5) i5 dn hw
  | false =>
    rw [if_neg Bool.false_ne_true] at ht ⊢
    exact q _ H3 (.dat (.bool false)) (x1.trans x3) i3 (.bl false) ht
theorem eb_cmp2 (fm : Fam P w K mg base N k sc F) (hs : (base.get? sysModules).isSome = true) {a b c : Expr} {o1 o2 : CmpOp} {pos : Pos} {Ra Rc : Sv → Prop} {B : Bool → Prop} (ha : EvS F V K cA wi a cfg Ra X)
    (m : ∀ r, Ra r → asD r fun x => EvS F V K cA wi b cfg (fun r => asD r fun y => cmpW o1 x y fun t => if t = true then EvS F V K cA wi c cfg (fun r => asD r fun z => cmpW o2 y z B) X else B false) X) (hm : noSet c = true) :
    EvB F V K cA wi (.Compare a [o1, o2] [b, c] pos) cfg B X := by
  intro σ H i sd Q q xo
  have mk : lastMarks [o1, o2] [b, c] = false := by
    show behindInMarks o2 c = false
    exact mark_of hm
  refine ⟨_, fun z => pt_chain (wo_op z) (wo_op z) (we_pe z) (we_pe z) (we_pe z) mk, ?_⟩
  refine two_all ha m σ H i sd (fun _ => True) _ (fun v u H' x y x1 i1 dx dy h => ?_) xo
  refine cmp_ok fm hs h H' v u i1 dx dy _ fun v' H3 r x3 i3 d3 h3 => ?_
  obtain ⟨t, rfl, ht⟩ := h3
  obtain ⟨_, e, dn⟩ := d3
  cases e
  cases dn
  refine ⟨t, rfl, ?_⟩
  cases t with
  | true =>
    rw [if_pos rfl] at ht ⊢
    refine ht σ H3 i3 (sd.mono (x1.trans x3)) _ (fun v2 H4 r2 x4 i4 rv2 hr2 => ?_) (xo.mono (x1.trans x3))
    obtain ⟨z, hz, dz⟩ := asD_dn rv2 hr2
    refine cmp_ok fm hs hz H4 u v2 i4 (dy.mono (x3.trans x4)) dz _ fun v5 H5 r5 x5 i5 d5 h5 => ?_
    obtain ⟨w5, rfl, hw⟩ := h5
    obtain ⟨_, e, dn⟩ := d5
    cases e
    cases dn
    exact ⟨w5, rfl, q w5 H5 (((x1.trans x3).trans x4).trans x5) i5 hw⟩
  | false =>
    rw [if_neg Bool.false_ne_true] at ht ⊢
    exact ⟨false, rfl, q false H3 (x1.trans x3) i3 ht⟩
/-! ### dicts -/
end
theorem keyIs_iff {k j : Key} : keyIs (keyD k) j = decide (k = j) := by
  cases k <;> cases j <;> first | (rename_i a b; by_cases e : a = b <;> simp [keyIs, keyD, e]; done) | simp [keyIs, keyD]
section
variable {V : Wd} {K : PySem.W.Frag} {H : Hp}
theorem kv_look {k : Key} : ∀ {kvs : List (Key × L2.V)} {es : List (PyData × PyData)}, DnKv V K H kvs es → (∃ v d, valV kvs k = some v ∧ lookK es k = some d ∧ Dn V K H v d) ∨ (valV kvs k = none ∧ lookK es k = none)
  | [], _, h => by
    cases h
    exact Or.inr ⟨rfl, rfl⟩
  | (j, v) :: kvs, _, h => by
    cases h with
    | @cons _ _ _ d es a t =>
      unfold lookK
      rw [keyIs_iff]
      by_cases e : j = k
      · exact Or.inl ⟨v, d, valV_pos e, by simp [e], a⟩
      · have e1 : valV ((j, v) :: kvs) k = valV kvs k := by simp [valV, List.find?_cons, e]
        rw [e1]
        simp only [e, decide_false, Bool.false_eq_true, if_false]
        exact kv_look t
theorem kv_any {k : Key} : ∀ {kvs : List (Key × L2.V)} {es : List (PyData × PyData)}, DnKv V K H kvs es → (kvs.any fun kv => decide (kv.1 = k)) = es.any fun e => keyIs e.1 k
  | [], _, h => by cases h; rfl
  | (j, v) :: kvs, _, h => by
    cases h with
    | cons a t => rw [List.any_cons, List.any_cons, keyIs_iff, kv_any t]
theorem kv_map {k : Key} {v : L2.V} {d : PyData} (dv : Dn V K H v d) : ∀ {kvs : List (Key × L2.V)} {es : List (PyData × PyData)}, DnKv V K H kvs es → DnKv V K H (kvs.map fun kv => if kv.1 = k then (kv.1, v) else kv) (es.map fun e => if keyIs e.1 k = true then (e.1, d) else e)
  | [], _, h => by cases h; exact .nil
  | (j, u) :: kvs, _, h => by
    cases h with
    | cons a t =>
      rw [List.map_cons, List.map_cons, keyIs_iff]
      by_cases e : j = k
      · simp only [e, decide_true, if_true]
        exact .cons dv (kv_map dv t)
      · simp only [e, decide_false, Bool.false_eq_true, if_false]
        exact .cons a (kv_map dv t)
theorem kv_app {k : Key} {v : L2.V} {d : PyData} (dv : Dn V K H v d) : ∀ {kvs : List (Key × L2.V)} {es : List (PyData × PyData)}, DnKv V K H kvs es → DnKv V K H (kvs ++ [(k, v)]) (es ++ [(keyD k, d)])
  | [], _, h => by cases h; exact .cons dv .nil
  | (j, u) :: kvs, _, h => by
    cases h with
    | cons a t => exact .cons a (kv_app dv t)
theorem kv_put {k : Key} {v : L2.V} {d : PyData} {kvs : List (Key × L2.V)} {es : List (PyData × PyData)} (h : DnKv V K H kvs es) (dv : Dn V K H v d) : DnKv V K H (putK kvs k v) (putD es k d) := by
  unfold putK putD
  rw [kv_any h]
  split
  · exact kv_map dv h
  · exact kv_app dv h
theorem kv_len : ∀ {kvs : List (Key × L2.V)} {es : List (PyData × PyData)}, DnKv V K H kvs es → kvs.length = es.length
  | [], _, h => by cases h; rfl
  | _ :: _, _, h => by
    cases h with
    | cons a t => rw [List.length_cons, List.length_cons, kv_len t]
theorem key_dn {v : L2.V} {d : PyData} {B : Key → Prop} (dn : Dn V K H v d) (h : keyW d B) : ∃ k, v = kV k ∧ B k := by
  cases dn <;> first | exact h.elim | exact ⟨_, rfl, h⟩
end
section
variable {ι : Type} {F : ι → Cx} {P : Program} {w : World} {K : PySem.W.Frag} {mg : Str → Option Value} {base : Heap} {N : List Str} {k : Nat} {sc : Scope} {V : Wd} {cA : Str → Value} {wi : L2.WX} {cfg : List Sl} {X : Exc → Prop} {R : Sv → Prop}
/-- d[k] -/
theorem es_dget (fm : Fam P w K mg base N k sc F) {a b : Expr} {pos : Pos} {Ra : Sv → Prop} (ha : EvS F V K cA wi a cfg Ra X) (m : ∀ r, Ra r → asD r fun x => EvS F V K cA wi b cfg (fun r => asD r fun y => ∃ es, x = .dict es ∧ keyW y fun q => ∃ d, lookK es q = some d ∧ R (.dat d)) X) (hp : noSlice b = true) : EvS F V K cA wi (.Subscript a b pos) cfg R X := by
  intro σ H i sd Q q x
  refine ⟨tDGet (WE F a) (WE F b), fun z => pe_dget (by have := (fm.ro z).un; omega) (we_pe z) (we_pe z) (plainIx_of hp), ?_⟩
  refine two_all ha m σ H i sd (fun _ => True) _ (fun v u H' x y x1 i1 dx dy h => ?_) x
  obtain ⟨es, rfl, h⟩ := h
  obtain ⟨q', rfl, d, hl, hr⟩ := key_dn dy h
  cases dx with
  | @dct a kvs _ n e r =>
    rcases kv_look (k := q') r with ⟨v2, d2, e1, e2, dn⟩ | ⟨_, e2⟩
    · rw [hl] at e2
      cases e2
      exact ⟨a, v2, rfl, by rw [← e1]; exact DGet.k e, q v2 H' (.dat d) x1 i1 dn hr⟩
    · rw [hl] at e2
      exact nomatch e2
/-- d.get(k, e), k may be None -/
def tGet2 (td ty tx : TE) : TE := fun σ H Q => td σ H fun x H1 => ∃ a kvs0, x = .ref a ∧ Rd H1 a (.dK kvs0) ∧ ty σ H1 fun y H2 => tx σ H2 fun z H3 => (∃ o, DGet H3 a y o ∧ Q (o.getD z) H3) ∨ (y = .non ∧ ∃ kvs, Rd H3 a (.dK kvs) ∧ Q z H3)
theorem d_getNone {X : Cx} {pins : List (Addr × Obj)} {σ : L2.St} {H : Hp} {s : Shared} {a : Addr} {A : Around} {E : Value → Shared → Prop} {kvs : List (Key × L2.V)} {r : Value} {Q : Value → Shared → Prop} (I : Inv X pins σ H s) (e : Rd H a (.dK kvs)) (h : ∀ s', Inv X pins σ H s' → Q r s') :
    wpAny (model X.prog X.w) A (call (.builtin "dict.get") [.ref a, .none, r]) Q E s := by
  obtain ⟨_, hd, vs, _, dd⟩ := dk_rd I.hok e
  obtain ⟨f, hm, hf⟩ := none_map dd
  refine call_meetsIn PySem.F.slot_dict_get dd.typeIs PySem.F.entry_dict_get (PySem.F.args_dict_get_3 _ _ _) (meets_dict_get_default (noneKind X.prog X.w) a (show (noneKind X.prog X.w).is none .none = true from rfl) hd r) ⟨_, hm, ?_⟩
  rw [hf]
  exact h _ (I.tok _)
theorem pe_get2 {X : Cx} {o e f : Expr} {apos cpos : Pos} {td ty tx : TE} (hu : X.A.units + 1 < cLine) (ho : PE X o td) (he : PE X e ty) (hf : PE X f tx) (m : M2 X o "get" apos e f cpos) : PE X (.Call (.Attribute o "get" apos) [e, f] [] cpos) (tGet2 td ty tx) := by
  refine ⟨fun pins s σ H Q I h => wpAny_Call_method m.base m.few m.line PySem.F.plainAttrs_dict PySem.F.slot_dict_get PySem.F.type_dict_get (thn (ho.run pins s σ H _ I h) fun u s1 ⟨x, H1, I1, rx, a, kvs0, ex, d, q1⟩ => ?_)⟩
  subst ex
  obtain rfl : u = Value.ref a := rx
  obtain ⟨t1, t2, _⟩ := isD_at I1 (.inl ⟨kvs0, d⟩)
  refine ⟨t1, t2, ?_⟩
  rw [m.trees]
  refine Calls.callWith_builtin rfl (Calls.evalArgs_plain (Calls.spliced_cons (thn (he.run pins s1 σ H1 _ I1 q1) fun iv s2 ⟨y, H2, I2, ry, q2⟩ => Calls.spliced_cons (thn (hf.run pins s2 σ H2 _ I2 q2) fun fv s3 ⟨z, H3, I3, rz, q3⟩ => Calls.spliced_nil ?_))))
  rcases q3 with ⟨ov, g, q3⟩ | ⟨rfl, kvs, g, q3⟩
  · exact d_get2 hu I3 g ry rz fun w' s4 I4 rw' => ⟨_, H3, I4, rw', q3⟩
  · obtain rfl : iv = Value.none := ry
    exact d_getNone I3 g fun s4 I4 => ⟨z, H3, I4, rz, q3⟩
theorem es_get2 (fm : Fam P w K mg base N k sc F) {a b c : Expr} {apos pos : Pos} {Ra : Sv → Prop} (ha : EvS F V K cA wi a cfg Ra X)
    (m : ∀ r, Ra r → asD r fun x => ∃ es, x = .dict es ∧ EvS F V K cA wi b cfg (fun r => asD r fun y => EvS F V K cA wi c cfg (fun r => asD r fun z => keyN y fun q => R (.dat ((q.bind (lookK es)).getD z))) X) X)
    (nb : noStar b = true) (nc : noStar c = true) (hb : ∀ i, attributeBase a "get" (F i).env (eval a (F i).env) = eval a (F i).env) (hl : (apos.endLine == pos.line) = true) : EvS F V K cA wi (.Call (.Attribute a "get" apos) [b, c] [] pos) cfg R X := by
  intro σ H i sd Q q xo
  refine ⟨tGet2 (WE F a) (WE F b) (WE F c), fun z => pe_get2 (by have := (fm.ro z).un; omega) (we_pe z) (we_pe z) (we_pe z) ⟨hb z, by rw [star_of nb, star_of nc]; rfl, hl, by rw [star_of nb, star_of nc]; rfl⟩, ?_⟩
  refine ha σ H i sd _ (fun v H1 r x1 i1 rv hr => ?_) xo
  obtain ⟨x, ⟨es, rfl, hx⟩, dn⟩ := asD_dn rv (m r hr)
  cases dn with
  | @dct p kvs _ n e rr =>
    refine ⟨p, kvs, rfl, .inl e, ?_⟩
    refine hx σ H1 i1 (sd.mono x1) _ (fun u H2 r2 x2 i2 rv2 hr2 => ?_) (xo.mono x1)
    obtain ⟨y, hy, dy⟩ := asD_dn rv2 hr2
    refine hy σ H2 i2 (sd.mono (x1.trans x2)) _ (fun t H3 r3 x3 i3 rv3 hr3 => ?_) (xo.mono (x1.trans x2))
    obtain ⟨z, hz, dz⟩ := asD_dn rv3 hr3
    have e3 : H3 p = some (.dK kvs) := x3 p _ n (x2 p _ n e)
    have rr3 := (DnKv.mono x2 rr).mono x3
    have x13 := (x1.trans x2).trans x3
    have keyed : keyW y (fun q => R (.dat ((lookK es q).getD z))) → ∃ o, DGet H3 p u o ∧ Q (o.getD t) H3 := fun h => by
      obtain ⟨k', rfl, hk⟩ := key_dn dy h
      rcases kv_look (k := k') rr3 with ⟨v2, d2, e1, e2, dn⟩ | ⟨e1, e2⟩
      · refine ⟨some v2, by rw [← e1]; exact DGet.k e3, ?_⟩
        rw [e2] at hk
        exact q v2 H3 (.dat d2) x13 i3 dn hk
      · refine ⟨none, by rw [← e1]; exact DGet.k e3, ?_⟩
        rw [e2] at hk
        exact q t H3 (.dat z) x13 i3 dz hk
    cases dy with
    | non => exact Or.inr ⟨rfl, kvs, .inl e3, q t H3 (.dat z) x13 i3 dz hz⟩
    | int n => exact Or.inl (keyed hz)
    | str n => exact Or.inl (keyed hz)
    | bl _ => exact hz.elim
    | lst _ _ => exact hz.elim
    | tup _ _ => exact hz.elim
    | dct _ _ _ => exact hz.elim
end
end Dr

set_option Elab.async false
set_option linter.all false
set_option maxRecDepth 100000
set_option maxHeartbeats 1000000
namespace Dr
open PySem PySem.Spec PyProof.Rows L2 Cr
/-! ## own things, seen as data for a while -/
def Wd.less (V : Wd) (cs : List (Addr × HO)) : Wd where
  M a := V.M a ∧ ∀ c ∈ cs, c.1 ≠ a
  I H := ∃ H0, V.I H0 ∧ ∀ a, (V.M a ∧ ∀ c ∈ cs, c.1 ≠ a) → H a = H0 a
  has H a i m := by
    obtain ⟨H0, i0, e⟩ := i
    rw [e a m]
    exact V.has H0 a i0 m.1
  loc H H' i x := by
    obtain ⟨H0, i0, e⟩ := i
    exact ⟨H0, i0, fun a m => (x a m).trans (e a m)⟩
theorem less_draws {V : Wd} {cs : List (Addr × HO)} {p c : Addr} {ns : List Int} (d : Draws V p c ns) (h : ∀ z ∈ cs, z.1 ≠ p ∧ z.1 ≠ c) : Draws (Wd.less V cs) p c ns where
  mp := ⟨d.mp, fun z hz => (h z hz).1⟩
  mc := ⟨d.mc, fun z hz => (h z hz).2⟩
  pot H i := by
    obtain ⟨H0, i0, e⟩ := i
    obtain ⟨n, ⟨a, x, y, e1⟩, e2⟩ := d.pot H0 i0
    exact ⟨n, ⟨a, x, y, (e p ⟨d.mp, fun z hz => (h z hz).1⟩).trans e1⟩, (e c ⟨d.mc, fun z hz => (h z hz).2⟩).trans e2⟩
  step H H' i x pt := by
    obtain ⟨H0, i0, e⟩ := i
    obtain ⟨n, ⟨a, b, y, e1⟩, e2⟩ := pt
    have mc : V.M c ∧ ∀ z ∈ cs, z.1 ≠ c := ⟨d.mc, fun z hz => (h z hz).2⟩
    refine ⟨fun q => if q = p then H' p else H0 q, d.step H0 _ i0 (fun q _ ne => if_neg ne) ⟨n, ⟨a, b, y, (if_pos rfl).trans e1⟩, ?_⟩, fun q m => ?_⟩
    · show (if c = p then H' p else H0 c) = _
      rw [if_neg (fun z => n z.symm), ← e c mc, ← x c mc fun z => n z.symm]
      exact e2
    · by_cases ne : q = p
      · rw [ne]
        exact (if_pos rfl).symm
      · show _ = if q = p then H' p else H0 q
        rw [if_neg ne, x q m ne]
        exact e q m
def thawL : Sl → Sl
  | .ml _ _ ds => .dat (.list ds)
  | .od _ _ d => .dat d
  | s => s
theorem thaw_abs (cfg : List Sl) : (cfg.map thawL).map absS = (cfg.map absS).map thaw := by
  rw [List.map_map, List.map_map]
  congr 1
  funext s
  cases s <;> rfl
theorem thaw_cells : ∀ cfg : List Sl, cellsOf (cfg.map thawL) = []
  | [] => rfl
  | s :: r => by
    show cellS (thawL s) ++ cellsOf (r.map thawL) = []
    rw [thaw_cells r]
    cases s <;> rfl
section
variable {V : Wd} {K : PySem.W.Frag} {H : Hp}
theorem less_M {cs : List (Addr × HO)} : ∀ a, H a ≠ none → (Wd.less V cs).M a → V.M a := fun _ _ m => m.1
theorem dv_thaw {cs : List (Addr × HO)} {o : Option L2.V} : ∀ {s : Sl}, (∀ c ∈ cellS s, c ∈ cs ∧ H c.1 = some c.2) → Dv V K H o s → Dv (Wd.less V cs) K H o (thawL s)
  | .dat d, _, h => Dv.to less_M h
  | .raw _, _, h => h
  | .any, _, h => h
  | .ml p us ds, hc, ⟨e, h⟩ => by
    obtain ⟨m, hp⟩ := hc (p, .lst us) List.mem_cons_self
    exact ⟨_, e, .lst ⟨fun z => z.2 _ m rfl, hp⟩ (DnAll.to less_M h)⟩
  | .od p u d, hc, ⟨e, h⟩ => by
    obtain ⟨m, hp⟩ := hc (p, u) List.mem_cons_self
    refine ⟨_, e, ?_⟩
    have h : OD (Wd.less V cs) K H u d := OD.to less_M h
    unfold OD at h
    split at h
    · exact .lst ⟨fun z => z.2 _ m rfl, hp⟩ h
    · exact .dct (fun z => z.2 _ m rfl) hp h
    · exact h.elim
theorem sd_thaw {cs : List (Addr × HO)} : ∀ {σ : L2.St} {cfg : List Sl}, (∀ c ∈ cellsOf cfg, c ∈ cs ∧ H c.1 = some c.2) → Sd V K H σ cfg → Sd (Wd.less V cs) K H σ (cfg.map thawL)
  | [], [], _, _ => trivial
  | _ :: _, _ :: _, hc, ⟨a, t⟩ => ⟨dv_thaw (fun c h => hc c (List.mem_append.mpr (Or.inl h))) a, sd_thaw (fun c h => hc c (List.mem_append.mpr (Or.inr h))) t⟩
  | [], _ :: _, _, h => h.elim
  | _ :: _, [], _, h => h.elim
end
section
variable {ι : Type} {F : ι → Cx} {P : Program} {w : World} {K : PySem.W.Frag} {mg : Str → Option Value} {base : Heap} {N : List Str} {k : Nat} {sc : Scope} {V : Wd} {cA : Str → Value} {wi : L2.WX} {cfg : List Sl} {X : Exc → Prop} {R : Sv → Prop}
theorem flat_dn {W W' : Wd} {H H' : Hp} {v : L2.V} {d : PyData} (h : Dn W K H v d) (f : flatD d = true) : Dn W' K H' v d := by
  cases h <;> first | exact absurd f Bool.false_ne_true | constructor
/-- back from the view -/
theorem less_back {H H' : Hp} (hc : COk V cfg) (i : V.I H) (x : Wx (Wd.less V (cellsOf cfg)) H H') (i' : (Wd.less V (cellsOf cfg)).I H') : Wx V H H' ∧ V.I H' := by
  refine ⟨fun a o n h => x a o (fun m => n m.1) h, ?_⟩
  obtain ⟨H0, i0, e⟩ := i'
  refine V.loc H0 H' i0 fun a m => ?_
  by_cases h : ∀ c ∈ cellsOf cfg, c.1 ≠ a
  · exact e a ⟨m, h⟩
  · rw [Classical.not_forall] at h
    obtain ⟨c, h⟩ := h
    rw [Classical.not_imp, Classical.not_not] at h
    obtain ⟨hm, rfl⟩ := h
    rw [x c.1 c.2 (fun z => z.2 c hm rfl) (hc.pin H i c hm), hc.pin H0 i0 c hm]
theorem es_view {e : Expr} (hc : COk V cfg) (h : EvS F (Wd.less V (cellsOf cfg)) K cA wi0 e (cfg.map thawL) (fun r => asD r fun d => flatD d = true ∧ R (.dat d)) X0) : EvS F V K cA wi e cfg R X := by
  intro σ H i sd Q q _
  refine h σ H ⟨H, i, fun _ _ => rfl⟩ (sd_thaw (fun c h => ⟨h, hc.pin H i c h⟩) sd) Q (fun v H' r x i' rv hr => ?_) xo0
  obtain ⟨x2, i2⟩ := less_back hc i x i'
  obtain ⟨d, ⟨fl, hd⟩, dn⟩ := asD_dn rv hr
  exact q v H' (.dat d) x2 i2 (flat_dn dn fl) hd
theorem eb_view {e : Expr} {B : Bool → Prop} (hc : COk V cfg) (h : EvB F (Wd.less V (cellsOf cfg)) K cA wi0 e (cfg.map thawL) B X0) : EvB F V K cA wi e cfg B X := by
  intro σ H i sd Q q _
  refine h σ H ⟨H, i, fun _ _ => rfl⟩ (sd_thaw (fun c h => ⟨h, hc.pin H i c h⟩) sd) Q (fun b H' x i' hb => ?_) xo0
  obtain ⟨x2, i2⟩ := less_back hc i x i'
  exact q b H' x2 i2 hb
theorem cell_of {s : Sl} : ∀ {cfg : List Sl} {j : Nat}, cfg[j]? = some s → ∀ c ∈ cellS s, c ∈ cellsOf cfg
  | z :: cfg, 0, h, c, hc => by
    cases h
    exact List.mem_append.mpr (Or.inl hc)
  | z :: cfg, j + 1, h, c, hc => List.mem_append.mpr (Or.inr (cell_of (cfg := cfg) (j := j) h c hc))
/-- an own list's item -/
theorem es_idxO (fm : Fam P w K mg base N k sc F) (hc : COk V cfg) {x : Str} {px pos : Pos} {b : Expr} {j : Nat} {ds : List PyData} (hN : N[j]? = some x) (he : (cfg.map absS)[j]? = some (.own (.list ds))) (hv : visB sc x = true) (hd : okName x = true) (hp : PlainIx b)
    (h : EvS F V K cA wi b cfg (fun r => asI r fun i => ∃ d, atI ds i = some d ∧ R (.dat d)) X) : EvS F V K cA wi (.Subscript (.Name x px) b pos) cfg R X := by
  rw [List.getElem?_map] at he
  cases hj : cfg[j]? with
  | none => rw [hj] at he; exact nomatch he
  | some z =>
    rw [hj] at he
    have key : ∃ p us, (∀ H σ, V.I H → Sd V K H σ cfg → H p = some (.lst us) ∧ DnAll V K H us ds ∧ σ[j]? = some (some (.ref p))) := by
      cases z with
      | ml p us es =>
        cases he
        refine ⟨p, us, fun H σ i sd => ?_⟩
        obtain ⟨o, ho, e, dn⟩ := sd.get hj
        subst e
        exact ⟨hc.pin H i (p, .lst us) (cell_of (j := j) hj _ List.mem_cons_self), dn, ho⟩
      | od p u d =>
        have he : d = .list ds := by cases he; rfl
        subst he
        by_cases hu : ∃ us, u = .lst us
        · obtain ⟨us, rfl⟩ := hu
          refine ⟨p, us, fun H σ i sd => ?_⟩
          obtain ⟨o, ho, e, dn⟩ := sd.get hj
          subst e
          exact ⟨hc.pin H i (p, .lst us) (cell_of (j := j) hj _ List.mem_cons_self), dn, ho⟩
        · refine ⟨p, [], fun H σ i sd => ?_⟩
          obtain ⟨o, ho, e, dn⟩ := sd.get hj
          exfalso
          unfold OD at dn
          split at dn
          · exact hu ⟨_, rfl⟩
          · rename_i heq _; exact nomatch heq
          · exact dn
      | dat _ => cases he
      | raw _ => cases he
      | any => cases he
    obtain ⟨p, us, key⟩ := key
    intro σ H i sd Q q xo
    obtain ⟨hd1, hd2⟩ := okName_of hd
    refine ⟨tOp (WX F) (tVar j) (WE F b), fun z => pe_ix (wx_ix z) (pe_var (by rw [fm.nn z]; exact hN) (vis_of (fm.es z) hv) hd1 hd2) (we_pe z) hp, ?_⟩
    refine ⟨.ref p, (key H σ i sd).2.2, ?_⟩
    refine h σ H i sd _ (fun v2 H2 r2 x2 i2 d2 h2 => ?_) xo
    obtain ⟨n, rfl, d, ea, hr⟩ := asI_is h2
    have d2 : Dn V K H2 v2 (.int n) := d2
    cases d2
    obtain ⟨e2, rr, _⟩ := key H2 σ i2 (sd.mono x2)
    obtain ⟨v, ev, dn⟩ := atI_dn rr ea
    exact ⟨rIxL K, fun z => by have := ix_list (X := F z); rwa [fm.kk z] at this, _, _, n, v, rfl, rfl, SqL.of e2, ev, q v H2 (.dat d) x2 i2 dn hr⟩
theorem nm_ok (fm : Fam P w K mg base N k sc F) {x : Str} {scope : Scope} (o : nmB sc scope x = true) (z : ι × Shared × Hp × Addr × List (Str × Addr) × List Addr) : Loc (FB F scope z).env.scope x ∧ ((FB F scope z).fn x = true ∨ (FB F scope z).env.scope.names.lookup x = some .local) := by
  unfold nmB at o
  rw [Bool.and_eq_true, Bool.or_eq_true] at o
  obtain ⟨o2, o3⟩ := o
  have es : (relabel scope (F z.1).env) = relS scope sc := by rw [← fm.es z.1] <;> rfl
  refine ⟨loc_of es o2, ?_⟩
  rcases o3 with o3 | o3
  · exact Or.inl o3
  · refine Or.inr ?_
    show (relabel scope (F z.1).env).names.lookup x = _
    rw [es]
    exact beq_iff_eq.mp o3
theorem es_isi (fm : Fam P w K mg base N k sc F) (hm : ∀ x ∈ bltNames, mg x = none) {y z : Expr} {p pos : Pos} {ts : List String} (h : EvS F V K cA wi y cfg (fun r => asD r fun d => R (.dat (.bool (ts.any fun T => isaD T d)))) X) (hc : chkIsi sc ts z = true)
    (hg : glB sc "isinstance" = true) (hy : noStar y = true) : EvS F V K cA wi (.Call (.Name "isinstance" p) [y, z] [] pos) cfg R X := by
  have kt : ∀ {T : String}, ["int", "bool", "str", "tuple", "list"].contains T = true → KitT T ∧ bootBuiltins (T : Str) = some (.type T) ∧ mg (T : Str) = none ∧ ((T : Str)) ≠ "__name__" ∧ (((T : Str)) == ("__debug__" : Str)) = false := by
    intro T h
    have h : T ∈ ["int", "bool", "str", "tuple", "list"] := by simpa using h
    simp only [List.mem_cons, List.not_mem_nil, or_false] at h
    rcases h with rfl | rfl | rfl | rfl | rfl
    · exact ⟨kit_int, by decide +kernel, hm _ (by decide), by decide, by decide⟩
    · exact ⟨kit_bool, by decide +kernel, hm _ (by decide), by decide, by decide⟩
    · exact ⟨kit_str, by decide +kernel, hm _ (by decide), by decide, by decide⟩
    · exact ⟨kit_tuple, by decide +kernel, hm _ (by decide), by decide, by decide⟩
    · exact ⟨kit_list, by decide +kernel, hm _ (by decide), by decide, by decide⟩
  intro σ H i sd Q q xo
  unfold chkIsi at hc
  split at hc
  · rename_i T x px
    simp only [Bool.and_eq_true, beq_iff_eq] at hc
    obtain ⟨rfl, hgT, hT⟩ := hc
    obtain ⟨k1, k2, k3, k4, k5⟩ := kt hT
    refine ⟨tCB (WC F (.builtin "isinstance")) (tCons (WE F y) (tCons (tC (.ty T)) tNil)), fun z => pe_callB (wc_call z) (gl_of (fm.es z) hg) (by rw [fm.mg z]; exact hm _ (by decide)) (by decide +kernel) (pa_cons (we_pe z) (pa_cons (pe_bltn (gl_of (fm.es z) hgT) (by rw [fm.mg z]; exact k3) k2 rfl k4 k5) pa_nil (by rfl)) (star_of hy)) (by decide) (by decide) (star_of hy) (by rfl), ?_⟩
    refine h σ H i sd _ (fun v H1 r x1 i1 rv h1 => ?_) xo
    obtain ⟨d, hd, dn⟩ := asD_dn rv h1
    refine ⟨rIsi K, fun z => by have := call_isi (X := F z); rwa [fm.kk z] at this, _, .ty T, _, .type T, _, rfl, .ty T, tyx_of dn, k1.of d, q _ H1 (.dat (.bool (isaD T d))) x1 i1 (.bl _) ?_⟩
    simpa using hd
  · rename_i T U x px y' py kk p4
    simp only [Bool.and_eq_true, beq_iff_eq] at hc
    obtain ⟨⟨rfl, hgT, hT⟩, rfl, hgU, hU⟩ := hc
    obtain ⟨k1, k2, k3, k4, k5⟩ := kt hT
    obtain ⟨j1, j2, j3, j4, j5⟩ := kt hU
    refine ⟨tCB (WC F (.builtin "isinstance")) (tCons (WE F y) (tCons (tTup (tCons (tC (.ty T)) (tCons (tC (.ty U)) tNil))) tNil)), fun z => pe_callB (wc_call z) (gl_of (fm.es z) hg) (by rw [fm.mg z]; exact hm _ (by decide)) (by decide +kernel) (pa_cons (we_pe z) (pa_cons (pe_tup (pa_cons (pe_bltn (gl_of (fm.es z) hgT) (by rw [fm.mg z]; exact k3) k2 rfl k4 k5) (pa_cons (pe_bltn (gl_of (fm.es z) hgU) (by rw [fm.mg z]; exact j3) j2 rfl j4 j5) pa_nil (by rfl)) (by rfl))) pa_nil (by rfl)) (star_of hy)) (by decide) (by decide) (star_of hy) (by rfl), ?_⟩
    refine h σ H i sd _ (fun v H1 r x1 i1 rv h1 => ?_) xo
    obtain ⟨d, hd, dn⟩ := asD_dn rv h1
    refine ⟨by show 2 ≤ sizeLine; decide, fun tp htp => ?_⟩
    obtain ⟨np, xp, ip⟩ := V.new (o := .tup [.ty T, .ty U]) i1 htp
    have xw : Wx V H1 (upd H1 tp (.tup [.ty T, .ty U])) := xp
    refine ⟨rIsiT K, fun z => by have := call_isiT (X := F z); rwa [fm.kk z] at this, _, tp, [.ty T, .ty U], .type (tyD d), [.type T, .type U], _, rfl, upd_same, .cons (.ty T) (.cons (.ty U) .nil), tyx_of (dn.mono xw), kit_two k1 j1 d, q _ _ (.dat (.bool (isa2 T U d))) (x1.trans xw) ip (.bl _) ?_⟩
    have e : isa2 T U d = ([T, U].any fun T => isaD T d) := by
      simp [isa2]
    rw [e]
    exact hd
  · exact absurd hc Bool.false_ne_true
end
end Dr

set_option Elab.async false
set_option linter.all false
set_option maxRecDepth 100000
set_option maxHeartbeats 4000000
namespace Dr
open PySem PySem.Spec PyProof.Rows L2 Cr
section
variable {P : Program} {w : World} {K : PySem.W.Frag} {mg : Str → Option Value} {base : Heap} {N : List Str} {k : Nat} {cA : Str → Value} {G : GI}
/-- what stands around an expression -/
structure Ctx {ι : Type} (P : Program) (w : World) (K : PySem.W.Frag) (mg : Str → Option Value) (base : Heap) (N : List Str) (k : Nat) (G : GI) (F : ι → Cx) (sc : Scope) (V : Wd) (wi : L2.WX) (cfg : List Sl) : Prop where
  fm : Fam P w K mg base N k sc F
  tk : ∀ i, Takes (F i) wi
  co : COk V cfg
  po : PotOk G V cfg
structure SndE (P : Program) (w : World) (K : PySem.W.Frag) (mg : Str → Option Value) (base : Heap) (N : List Str) (k : Nat) (cA : Str → Value) (G : GI) (m : Nat) : Prop where
  V : ∀ {ι : Type} {F : ι → Cx} {sc : Scope} {V : Wd} {wi : L2.WX} {cfg : List Sl}, Ctx P w K mg base N k G F sc V wi cfg → ∀ {X : Exc → Prop} {R : Sv → Prop} {n : Nat} {ir : Ex} {e : Expr}, chkV G N m sc ir e = true → wpE G n (cfg.map absS) X ir R → EvS F V K cA wi e cfg R X
  T : ∀ {ι : Type} {F : ι → Cx} {sc : Scope} {V : Wd} {wi : L2.WX} {cfg : List Sl}, Ctx P w K mg base N k G F sc V wi cfg → ∀ {X : Exc → Prop} {B : Bool → Prop} {n : Nat} {ir : Ex} {e : Expr}, chkT G N m sc ir e = true → wpE G n (cfg.map absS) X ir (fun r => asB r B) → EvB F V K cA wi e cfg B X
  S : ∀ {ι : Type} {F : ι → Cx} {sc : Scope} {V : Wd} {wi : L2.WX} {cfg : List Sl}, Ctx P w K mg base N k G F sc V wi cfg → ∀ {X : Exc → Prop} {B : List PyData → Prop} {n : Nat} {t : Bool} {ir : Ex} {tg e : Expr}, chkS G N m sc t ir e = true → (t = true → isTupE tg = true) → wpE G n (cfg.map absS) X ir (fun r => asS r B) → EvI F V K cA wi tg e cfg B X
section
variable {ι : Type} {F : ι → Cx} {sc : Scope} {V : Wd} {wi : L2.WX} {cfg : List Sl}
theorem Ctx.view (c : Ctx P w K mg base N k G F sc V wi cfg) : Ctx P w K mg base N k G F sc (Wd.less V (cellsOf cfg)) wi0 (cfg.map thawL) where
  fm := c.fm
  tk := fun _ => takes0
  co := ⟨fun z h => by rw [thaw_cells] at h; exact absurd h List.not_mem_nil, fun H _ z h => by rw [thaw_cells] at h; exact absurd h List.not_mem_nil⟩
  po := fun t ht => ⟨less_draws (c.po t ht).1 (c.po t ht).2, fun z h => by rw [thaw_cells] at h; exact absurd h List.not_mem_nil⟩
theorem Ctx.blk (c : Ctx P w K mg base N k G F sc V wi cfg) (scope : Scope) (hk : scope.kind = .function) {D : Addr} {o : HO} {cfg' : List Sl} (nD : ¬ V.M D) (h : ∀ z ∈ cellsOf cfg', z ∈ cellsOf cfg) : Ctx P w K mg base N k G (FB F scope) (relS scope sc) (V.plus D o) wi0 cfg' where
  fm := c.fm.blk scope hk
  tk := fun _ => takes0
  co := ⟨fun z hz => Or.inl (c.co.mem z (h z hz)), fun H i z hz => c.co.pin H i.1 z (h z hz)⟩
  po := fun t ht => ⟨(c.po t ht).1.plus nD, fun z hz => (c.po t ht).2 z (h z hz)⟩
end
theorem snd_list {m : Nat} (S : SndE P w K mg base N k cA G m) {ι : Type} {F : ι → Cx} {sc : Scope} {V : Wd} {wi : L2.WX} {cfg : List Sl} (c : Ctx P w K mg base N k G F sc V wi cfg) {X : Exc → Prop} {n : Nat} : ∀ {is : List Ex} {es : List Expr} {B : List PyData → Prop}, chkL (chkV G N m sc) is es = true → wpL (wpE G n (cfg.map absS) X) is B → EvL F V K cA wi es cfg (fun ds => ds.length = es.length ∧ B ds) X
  | [], [], B, _, h => el_nil ⟨rfl, h⟩
  | i :: is, e :: es, B, hc, h => by
    unfold chkL at hc
    rw [Bool.and_eq_true, Bool.and_eq_true] at hc
    refine el_cons (S.V c hc.1 h) (fun r hr => asD_mono hr fun d hd => ?_) (R2 := fun _ _ => True) fun _ => star_of hc.2.1
    exact fun σ H ii sd Q q x => snd_list S c hc.2.2 hd σ H ii sd Q (fun vs H' ds x1 i1 dn hds => q vs H' ds x1 i1 dn ⟨by rw [List.length_cons, List.length_cons, hds.1], hds.2⟩) x
  | [], _ :: _, _, hc, _ => absurd hc Bool.false_ne_true
  | _ :: _, [], _, hc, _ => absurd hc Bool.false_ne_true
theorem chkL_len {f : Ex → Expr → Bool} : ∀ {is : List Ex} {es : List Expr}, chkL f is es = true → es.all noStar = true
  | [], [], _ => rfl
  | i :: is, e :: es, h => by
    unfold chkL at h
    rw [Bool.and_eq_true, Bool.and_eq_true] at h
    rw [List.all_cons, h.2.1, chkL_len h.2.2]
    rfl
  | [], _ :: _, h => absurd h Bool.false_ne_true
  | _ :: _, [], h => absurd h Bool.false_ne_true
theorem snd_and {m : Nat} (S : SndE P w K mg base N k cA G m) {ι : Type} {F : ι → Cx} {sc : Scope} {V : Wd} {wi : L2.WX} {cfg : List Sl} (c : Ctx P w K mg base N k G F sc V wi cfg) {X : Exc → Prop} {n : Nat} {R : Sv → Prop} {pos : Pos} : ∀ {is : List Ex} {es : List Expr}, chkL (chkV G N m sc) is es = true → wpAnd (wpE G n (cfg.map absS) X) is (fun b => R (.dat (.bool b))) → EvS F V K cA wi (.BoolOp .And es pos) cfg R X
  | [], [], _, h => h.elim
  | [i], [e], hc, h => by
    unfold chkL at hc
    rw [Bool.and_eq_true] at hc
    exact es_bop1 (es_imp (S.V c hc.1 h) fun r hr => by obtain ⟨b, rfl, hb⟩ := asB_is hr; exact hb)
  | i :: j :: is, e :: f :: es, hc, h => by
    unfold chkL at hc
    rw [Bool.and_eq_true, Bool.and_eq_true] at hc
    refine es_and (es_imp (S.V c hc.1 h) fun r hr => ?_)
    obtain ⟨b, rfl, hb⟩ := asB_is hr
    show if b = true then _ else _
    cases b with
    | true =>
      rw [if_pos rfl] at hb ⊢
      exact snd_and S c hc.2.2 hb
    | false =>
      rw [if_neg Bool.false_ne_true] at hb ⊢
      exact hb
  | [], _ :: _, hc, _ => absurd hc Bool.false_ne_true
  | _ :: _, [], hc, _ => absurd hc Bool.false_ne_true
  | [_], _ :: _ :: _, hc, _ => by
    unfold chkL at hc
    rw [Bool.and_eq_true, Bool.and_eq_true] at hc
    exact absurd hc.2.2 Bool.false_ne_true
  | _ :: _ :: _, [_], hc, _ => by
    unfold chkL at hc
    rw [Bool.and_eq_true, Bool.and_eq_true] at hc
    exact absurd hc.2.2 Bool.false_ne_true
theorem snd_or {m : Nat} (S : SndE P w K mg base N k cA G m) {ι : Type} {F : ι → Cx} {sc : Scope} {V : Wd} {wi : L2.WX} {cfg : List Sl} (c : Ctx P w K mg base N k G F sc V wi cfg) {X : Exc → Prop} {n : Nat} {R : Sv → Prop} {pos : Pos} : ∀ {is : List Ex} {es : List Expr}, chkL (chkV G N m sc) is es = true → wpOr (wpE G n (cfg.map absS) X) is (fun b => R (.dat (.bool b))) → EvS F V K cA wi (.BoolOp .Or es pos) cfg R X
  | [], [], _, h => h.elim
  | [i], [e], hc, h => by
    unfold chkL at hc
    rw [Bool.and_eq_true] at hc
    exact es_bop1 (es_imp (S.V c hc.1 h) fun r hr => by obtain ⟨b, rfl, hb⟩ := asB_is hr; exact hb)
  | i :: j :: is, e :: f :: es, hc, h => by
    unfold chkL at hc
    rw [Bool.and_eq_true, Bool.and_eq_true] at hc
    refine es_or (es_imp (S.V c hc.1 h) fun r hr => ?_)
    obtain ⟨b, rfl, hb⟩ := asB_is hr
    show if b = true then _ else _
    cases b with
    | true =>
      rw [if_pos rfl] at hb ⊢
      exact hb
    | false =>
      rw [if_neg Bool.false_ne_true] at hb ⊢
      exact snd_or S c hc.2.2 hb
  | [], _ :: _, hc, _ => absurd hc Bool.false_ne_true
  | _ :: _, [], hc, _ => absurd hc Bool.false_ne_true
  | [_], _ :: _ :: _, hc, _ => by
    unfold chkL at hc
    rw [Bool.and_eq_true, Bool.and_eq_true] at hc
    exact absurd hc.2.2 Bool.false_ne_true
  | _ :: _ :: _, [_], hc, _ => by
    unfold chkL at hc
    rw [Bool.and_eq_true, Bool.and_eq_true] at hc
    exact absurd hc.2.2 Bool.false_ne_true
theorem snd_andT {m : Nat} (S : SndE P w K mg base N k cA G m) {ι : Type} {F : ι → Cx} {sc : Scope} {V : Wd} {wi : L2.WX} {cfg : List Sl} (c : Ctx P w K mg base N k G F sc V wi cfg) {X : Exc → Prop} {n : Nat} {B : Bool → Prop} {pos : Pos} : ∀ {is : List Ex} {es : List Expr}, chkL (chkT G N m sc) is es = true → wpAnd (wpE G n (cfg.map absS) X) is B → EvWs F V K cA wi (.BoolOp .And es pos) cfg B X
  | [], [], _, h => h.elim
  | [i], [e], hc, h => by
    unfold chkL at hc
    rw [Bool.and_eq_true] at hc
    exact ew_and1 (S.T c hc.1 h)
  | i :: j :: is, e :: f :: es, hc, h => by
    unfold chkL at hc
    rw [Bool.and_eq_true, Bool.and_eq_true] at hc
    refine ew_and ?_
    refine fun σ H ii sd Q q x => (S.T c hc.1 h) σ H ii sd Q (fun b H' x1 i1 hb => q b H' x1 i1 ?_) x
    cases b with
    | true =>
      rw [if_pos rfl] at hb ⊢
      exact snd_andT S c hc.2.2 hb
    | false =>
      rw [if_neg Bool.false_ne_true] at hb ⊢
      exact hb
  | [], _ :: _, hc, _ => absurd hc Bool.false_ne_true
  | _ :: _, [], hc, _ => absurd hc Bool.false_ne_true
  | [_], _ :: _ :: _, hc, _ => by
    unfold chkL at hc
    rw [Bool.and_eq_true, Bool.and_eq_true] at hc
    exact absurd hc.2.2 Bool.false_ne_true
  | _ :: _ :: _, [_], hc, _ => by
    unfold chkL at hc
    rw [Bool.and_eq_true, Bool.and_eq_true] at hc
    exact absurd hc.2.2 Bool.false_ne_true
theorem snd_orT {m : Nat} (S : SndE P w K mg base N k cA G m) {ι : Type} {F : ι → Cx} {sc : Scope} {V : Wd} {wi : L2.WX} {cfg : List Sl} (c : Ctx P w K mg base N k G F sc V wi cfg) {X : Exc → Prop} {n : Nat} {B : Bool → Prop} {pos : Pos} : ∀ {is : List Ex} {es : List Expr}, chkL (chkT G N m sc) is es = true → wpOr (wpE G n (cfg.map absS) X) is B → EvWs F V K cA wi (.BoolOp .Or es pos) cfg B X
  | [], [], _, h => h.elim
  | [i], [e], hc, h => by
    unfold chkL at hc
    rw [Bool.and_eq_true] at hc
    exact ew_or1 (S.T c hc.1 h)
  | i :: j :: is, e :: f :: es, hc, h => by
    unfold chkL at hc
    rw [Bool.and_eq_true, Bool.and_eq_true] at hc
    refine ew_or ?_
    refine fun σ H ii sd Q q x => (S.T c hc.1 h) σ H ii sd Q (fun b H' x1 i1 hb => q b H' x1 i1 ?_) x
    cases b with
    | true =>
      rw [if_pos rfl] at hb ⊢
      exact hb
    | false =>
      rw [if_neg Bool.false_ne_true] at hb ⊢
      exact snd_orT S c hc.2.2 hb
  | [], _ :: _, hc, _ => absurd hc Bool.false_ne_true
  | _ :: _, [], hc, _ => absurd hc Bool.false_ne_true
  | [_], _ :: _ :: _, hc, _ => by
    unfold chkL at hc
    rw [Bool.and_eq_true, Bool.and_eq_true] at hc
    exact absurd hc.2.2 Bool.false_ne_true
  | _ :: _ :: _, [_], hc, _ => by
    unfold chkL at hc
    rw [Bool.and_eq_true, Bool.and_eq_true] at hc
    exact absurd hc.2.2 Bool.false_ne_true
theorem snd_part {m : Nat} (S : SndE P w K mg base N k cA G m) {ι : Type} {F : ι → Cx} {sc : Scope} {V : Wd} {wi : L2.WX} {cfg : List Sl} (c : Ctx P w K mg base N k G F sc V wi cfg) {X : Exc → Prop} {n : Nat} : ∀ {i : Option Ex} {e : Option Expr} {B : Option Int → Prop}, chkO (chkV G N m sc) i e = true → wpO (wpE G n (cfg.map absS) X) i B → EvOs F V K cA wi e cfg B X
  | none, none, _, _, h => eo_none h
  | some i, some e, _, hc, h => eo_some (S.V c hc h)
  | none, some _, _, hc, _ => absurd hc Bool.false_ne_true
  | some _, none, _, hc, _ => absurd hc Bool.false_ne_true
theorem snd_ifs {m : Nat} (S : SndE P w K mg base N k cA G m) {ι : Type} {F : ι → Cx} {sc : Scope} {V : Wd} {cfg : List Sl} (c : Ctx P w K mg base N k G F sc V wi0 cfg) {n : Nat} {B : Bool → Prop} : ∀ {is : List Ex} {es : List Expr}, es.length ≤ 1 → chkL (chkT G N m sc) is es = true → wpIfs (wpE G n (cfg.map absS) X0) is B → EvIfs F V K es cfg B
  | [], [], _, _, h => eifs_nil h
  | [i], [e], _, hc, h => by
    unfold chkL at hc
    rw [Bool.and_eq_true] at hc
    refine eifs_one fun σ H ii sd Q q x => S.T c hc.1 h σ H ii sd Q (fun b H' x1 i1 hb => q b H' x1 i1 ?_) x
    cases b with
    | true => rw [if_pos rfl] at hb; exact hb
    | false => rw [if_neg Bool.false_ne_true] at hb; exact hb
  | _, _ :: _ :: _, hl, _, _ => absurd hl (by simp)
  | [], _ :: _, _, hc, _ => absurd hc Bool.false_ne_true
  | _ :: _, [], _, hc, _ => absurd hc Bool.false_ne_true
  | _ :: _ :: _, [_], _, hc, _ => by
    unfold chkL at hc
    rw [Bool.and_eq_true, Bool.and_eq_true] at hc
    exact absurd hc.2.2 Bool.false_ne_true
end
/-! targets -/
section
variable {ι : Type} {F : ι → Cx} {P : Program} {w : World} {K : PySem.W.Frag} {mg : Str → Option Value} {base : Heap} {N : List Str} {k : Nat} {sc : Scope} {V : Wd}
theorem assign_of {e : Expr} {es : List Expr} {env : Env} (h : noStar e = true) : (assignEach (e :: es) env).map (·.2) = assign e env :: (assignEach es env).map (·.2) := by
  cases e <;> first | rfl | exact absurd h Bool.false_ne_true
theorem assign_len {env : Env} : ∀ {es : List Expr}, (assignEach es env).length = es.length
  | [] => rfl
  | e :: es => by
    have : assignEach (e :: es) env = (match e with | .Starred _ _ => true | _ => false, (assignEach (e :: es) env).headD (false, fun _ => pure ()) |>.2) :: assignEach es env := by
      cases e <;> rfl
    rw [this, List.length_cons, List.length_cons, assign_len]
theorem assign_nostar {env : Env} : ∀ {es : List Expr}, es.all noStar = true → (assignEach es env).findIdx? (·.1) = none
  | [], _ => rfl
  | e :: es, h => by
    rw [List.all_cons, Bool.and_eq_true] at h
    have ih := assign_nostar (env := env) h.2
    have : ∃ t, assignEach (e :: es) env = (false, t) :: assignEach es env := by
      cases e <;> first | exact ⟨_, rfl⟩ | exact absurd h.1 Bool.false_ne_true
    obtain ⟨t, e⟩ := this
    rw [e, List.findIdx?_cons]
    simp [ih]
theorem chkGs_star {f : Tgt → Expr → Bool} : ∀ {ts : List Tgt} {es : List Expr}, chkGs f ts es = true → es.all noStar = true ∧ ts.length = es.length
  | [], [], _ => ⟨rfl, rfl⟩
  | i :: is, e :: es, h => by
    unfold chkGs at h
    rw [Bool.and_eq_true, Bool.and_eq_true] at h
    have ih := chkGs_star h.2.2
    exact ⟨by rw [List.all_cons, h.2.1, ih.1]; rfl, by rw [List.length_cons, List.length_cons, ih.2]⟩
  | [], _ :: _, h => absurd h Bool.false_ne_true
  | _ :: _, [], h => absurd h Bool.false_ne_true
theorem tgL_len {f : Tgt → PyData → List Sv → (List Sv → Prop) → Prop} (hf : ∀ t d e k, f t d e k → ∃ e', k e') : ∀ {ts : List Tgt} {ds : List PyData} {env : List Sv} {B : List Sv → Prop}, tgL f ts ds env B → ts.length = ds.length ∧ ∃ e', B e'
  | [], [], _, _, h => ⟨rfl, _, h⟩
  | t :: ts, d :: ds, env, B, h => by
    obtain ⟨e', h'⟩ := hf _ _ _ _ h
    have := tgL_len hf h'
    exact ⟨by rw [List.length_cons, List.length_cons, this.1], this.2⟩
  | [], _ :: _, _, _, h => h.elim
  | _ :: _, [], _, _, h => h.elim
theorem tgW_ex : ∀ {n : Nat} (t : Tgt) (d : PyData) (e : List Sv) (B : List Sv → Prop), tgW n t d e B → ∃ e', B e'
  | 0, _, _, _, _, h => h.elim
  | n + 1, .nm j, d, e, B, h => ⟨_, h⟩
  | n + 1, .tp ts, d, e, B, h => by
    unfold tgW at h
    split at h
    · exact (tgL_len (fun t d e k => tgW_ex t d e k) h).2
    · exact (tgL_len (fun t d e k => tgW_ex t d e k) h).2
    · exact h.elim
theorem snd_tgt (fm : Fam P w K mg base N k sc F) {ok : Str → Bool} (hok : ∀ x, ok x = true → ∀ i, Loc (F i).env.scope x ∧ ((F i).fn x = true ∨ (F i).env.scope.names.lookup x = some .local)) {vs : List Nat} : ∀ {m n q : Nat} {t : Tgt} {e : Expr} {cfg : List Sl} {d : PyData} {B : List Sv → Prop}, (∀ j ∈ slotsT q t, j ∈ vs) → m ≤ q → chkG N ok m t e = true → tgW n t d (cfg.map absS) B → TgS F V K e cfg vs d B
  | 0, _, _, _, _, _, _, _, _, _, hc, _ => absurd hc Bool.false_ne_true
  | _, _, 0, _, _, _, _, _, _, hq, hc, _ => by
    have : _ = 0 := Nat.le_zero.mp hq
    subst this
    exact absurd hc Bool.false_ne_true
  | _ + 1, 0, _ + 1, _, _, _, _, _, _, _, _, h => h.elim
  | m + 1, n + 1, q + 1, t, e, cfg, d, B, hj, hq, hc, h => by
    unfold chkG at hc
    split at hc
    · rename_i j x pos
      rw [Bool.and_eq_true, beq_iff_eq] at hc
      exact tg_nm fm hc.1 (hj j List.mem_cons_self) h (fun i => (hok x hc.2 i).1) fun i => (hok x hc.2 i).2
    · rename_i ts es k1 pos
      have hl := chkGs_star hc
      have key : ∀ {ds : List PyData}, (d = .tuple ds ∨ d = .list ds) → tgL (tgW n) ts ds (cfg.map absS) B → TgS F V K (.Tuple es k1 pos) cfg vs d B := fun {ds} hd h => by
        have hlen := (tgL_len (fun t d e k => tgW_ex t d e k) h).1
        refine tg_tupS fm hd ?_ (by rw [← hlen, hl.2]) (fun _ => assign_len) fun _ => assign_nostar hl.1
        have go : ∀ {ts : List Tgt} {es : List Expr} {ds : List PyData} {cfg : List Sl}, (∀ j ∈ slotsL (slotsT q) ts, j ∈ vs) → chkGs (chkG N ok m) ts es = true → tgL (tgW n) ts ds (cfg.map absS) B → TgsS F V K es cfg vs ds B := by
          intro ts
          induction ts with
          | nil =>
            intro es ds cfg hj hc h
            cases es with
            | nil =>
              cases ds with
              | nil => exact tgs_nilS h
              | cons _ _ => exact h.elim
            | cons _ _ => exact absurd hc Bool.false_ne_true
          | cons t ts ih =>
            intro es ds cfg hj hc h
            cases es with
            | nil => exact absurd hc Bool.false_ne_true
            | cons e es =>
              cases ds with
              | nil => exact h.elim
              | cons d ds =>
                unfold chkGs at hc
                rw [Bool.and_eq_true, Bool.and_eq_true] at hc
                refine tgs_consS (snd_tgt fm hok (fun j hh => hj j (List.mem_append.mpr (Or.inl hh))) (Nat.le_of_succ_le_succ hq) hc.1 h) (fun cfg1 _ h1 => ?_) fun _ => assign_of hc.2.1
                exact ih (fun j hh => hj j (List.mem_append.mpr (Or.inr hh))) hc.2.2 h1
        exact go hj hc h
      unfold tgW at h
      split at h
      · exact key (Or.inl rfl) h
      · exact key (Or.inr rfl) h
      · exact h.elim
    · exact absurd hc Bool.false_ne_true
end
end Dr

set_option Elab.async false
set_option linter.all false
set_option maxRecDepth 100000
set_option maxHeartbeats 4000000
namespace Dr
open PySem PySem.Spec PyProof.Rows L2 Cr
section
variable {P : Program} {w : World} {K : PySem.W.Frag} {mg : Str → Option Value} {base : Heap} {N : List Str} {k : Nat} {cA : Str → Value} {G : GI}
theorem own_snd {N : List Str} {js : List Nat} : (ownOf N js).map (·.2) = js := by
  unfold ownOf
  rw [List.map_map]
  exact List.map_id js
theorem snd_lc {m n : Nat} (S : SndE P w K mg base N k cA G m) {ι : Type} {F : ι → Cx} {sc : Scope} {V : Wd} {wi : L2.WX} {cfg : List Sl} (c : Ctx P w K mg base N k G F sc V wi cfg) {elt : Ex} {tg : Tgt} {src : Ex} {ifs : List Ex} {x y z : Expr} {us : List Expr} {scope : Scope}
    (hc : (blkC N sc scope (ownOf N (slotsT 9 tg)) && (noSet z && (chkS G N m sc (isTupE y) src z && (chkG N (nmB sc scope) 9 tg y && (decide (us.length ≤ 1) && (chkL (chkT G N m (relS scope sc)) ifs us && chkV G N m (relS scope sc) elt x)))))) = true) :
    (∀ z, BlkOk (F z).N (F z).env.scope scope (ownOf N (slotsT 9 tg))) ∧ noSet z = true ∧ chkS G N m sc (isTupE y) src z = true ∧
    (∀ D o, ¬ V.M D → ∀ d B, tgW 9 tg d (wipeS (cfg.map absS) (slotsT 9 tg)) B → TgS (FB F scope) (V.plus D o) K y (wipeE cfg ((ownOf N (slotsT 9 tg)).map (·.2))) ((ownOf N (slotsT 9 tg)).map (·.2)) d B) ∧
    (∀ D o cfg', ¬ V.M D → (∀ c ∈ cellsOf cfg', c ∈ cellsOf cfg) → ∀ B, wpIfs (wpE G n (cfg'.map absS) fun _ => False) ifs B → EvIfs (FB F scope) (V.plus D o) K us cfg' B) ∧
    (∀ D o cfg', ¬ V.M D → (∀ c ∈ cellsOf cfg', c ∈ cellsOf cfg) → ∀ B, (wpE G n (cfg'.map absS) (fun _ => False) elt fun r => asD r B) → EvS (FB F scope) (V.plus D o) K cA wi0 x cfg' (fun r => asD r B) X0) := by
  simp only [Bool.and_eq_true, decide_eq_true_eq] at hc
  obtain ⟨hb, hset, hsrc, htg, hlen, hifs, helt⟩ := hc
  have hk : scope.kind = .function := (blkOk_by hb).kind
  refine ⟨fun z => by rw [c.fm.nn z, c.fm.es z]; exact blkOk_by hb, hset, hsrc, fun D o nD d B hB => ?_, fun D o cfg' nD hsub B hB => ?_, fun D o cfg' nD hsub B hB => ?_⟩
  · rw [own_snd]
    refine snd_tgt (c.fm.blk scope hk) (ok := nmB sc scope) (fun x hx z => nm_ok c.fm hx z) (q := 9) (m := 9) (n := 9) (fun j hj => hj) (Nat.le_refl 9) htg ?_
    rw [wipe_abs]
    exact hB
  · exact snd_ifs S (c.blk scope hk nD hsub) hlen hifs hB
  · exact S.V (c.blk scope hk nD hsub) helt hB
theorem snd_lc2 {m n : Nat} (S : SndE P w K mg base N k cA G m) {ι : Type} {F : ι → Cx} {sc : Scope} {V : Wd} {wi : L2.WX} {cfg : List Sl} (c : Ctx P w K mg base N k G F sc V wi cfg) {elt : Ex} {tg tg1 : Tgt} {src src1 : Ex} {ifs ifs1 : List Ex} {x y z y1 z1 : Expr} {us us1 : List Expr} {scope : Scope}
    (hc : (blkC N sc scope (ownOf N (slotsT 9 tg ++ slotsT 9 tg1)) && (noSet z && (chkS G N m sc (isTupE y) src z && (chkG N (nmB sc scope) 9 tg y && (decide (us.length ≤ 1) && (chkL (chkT G N m (relS scope sc)) ifs us && (noSet z1 && (chkS G N m (relS scope sc) (isTupE y1) src1 z1 && (chkG N (nmB sc scope) 9 tg1 y1 && (decide (us1.length ≤ 1) && (chkL (chkT G N m (relS scope sc)) ifs1 us1 && chkV G N m (relS scope sc) elt x))))))))))) = true) :
    ((∀ z, BlkOk (F z).N (F z).env.scope scope (ownOf N (slotsT 9 tg ++ slotsT 9 tg1))) ∧ noSet z = true ∧ chkS G N m sc (isTupE y) src z = true ∧ noSet z1 = true) ∧
    (∀ D o, ¬ V.M D → ∀ d B, tgW 9 tg d (wipeS (cfg.map absS) (slotsT 9 tg ++ slotsT 9 tg1)) B → TgS (FB F scope) (V.plus D o) K y (wipeE cfg (slotsT 9 tg ++ slotsT 9 tg1)) (slotsT 9 tg ++ slotsT 9 tg1) d B) ∧
    (∀ D o cfg', ¬ V.M D → (∀ c ∈ cellsOf cfg', c ∈ cellsOf cfg) → ∀ B, wpIfs (wpE G n (cfg'.map absS) fun _ => False) ifs B → EvIfs (FB F scope) (V.plus D o) K us cfg' B) ∧
    (∀ D o cfg', ¬ V.M D → (∀ c ∈ cellsOf cfg', c ∈ cellsOf cfg) → ∀ B, (wpE G n (cfg'.map absS) (fun _ => False) src1 fun r => asS r B) → EvI (FB F scope) (V.plus D o) K cA wi0 y1 z1 cfg' B X0) ∧
    (∀ D o cfg', ¬ V.M D → (∀ c ∈ cellsOf cfg', c ∈ cellsOf cfg) → ∀ d B, tgW 9 tg1 d (wipeS (cfg'.map absS) (slotsT 9 tg1)) B → TgS (FB F scope) (V.plus D o) K y1 (wipeE cfg' (slotsT 9 tg1)) (slotsT 9 tg1) d B) ∧
    (∀ D o cfg', ¬ V.M D → (∀ c ∈ cellsOf cfg', c ∈ cellsOf cfg) → ∀ B, wpIfs (wpE G n (cfg'.map absS) fun _ => False) ifs1 B → EvIfs (FB F scope) (V.plus D o) K us1 cfg' B) ∧
    (∀ D o cfg', ¬ V.M D → (∀ c ∈ cellsOf cfg', c ∈ cellsOf cfg) → ∀ B, (wpE G n (cfg'.map absS) (fun _ => False) elt fun r => asD r B) → EvS (FB F scope) (V.plus D o) K cA wi0 x cfg' (fun r => asD r B) X0) := by
  simp only [Bool.and_eq_true, decide_eq_true_eq] at hc
  obtain ⟨hb, hset, hsrc, htg, hlen, hifs, hset1, hsrc1, htg1, hlen1, hifs1, helt⟩ := hc
  have hk : scope.kind = .function := (blkOk_by hb).kind
  refine ⟨⟨fun z => by rw [c.fm.nn z, c.fm.es z]; exact blkOk_by hb, hset, hsrc, hset1⟩, fun D o nD d B hB => ?_, fun D o cfg' nD hsub B hB => ?_, fun D o cfg' nD hsub B hB => ?_, fun D o cfg' nD hsub d B hB => ?_, fun D o cfg' nD hsub B hB => ?_, fun D o cfg' nD hsub B hB => ?_⟩
  · refine snd_tgt (c.fm.blk scope hk) (ok := nmB sc scope) (fun x hx z => nm_ok c.fm hx z) (q := 9) (m := 9) (n := 9) (fun j hj => List.mem_append.mpr (Or.inl hj)) (Nat.le_refl 9) htg ?_
    rw [wipe_abs]
    exact hB
  · exact snd_ifs S (c.blk scope hk nD hsub) hlen hifs hB
  · exact S.S (c.blk scope hk nD hsub) hsrc1 id hB
  · refine snd_tgt (c.fm.blk scope hk) (ok := nmB sc scope) (fun x hx z => nm_ok c.fm hx z) (q := 9) (m := 9) (n := 9) (fun j hj => hj) (Nat.le_refl 9) htg1 ?_
    rw [wipe_abs]
    exact hB
  · exact snd_ifs S (c.blk scope hk nD hsub) hlen1 hifs1 hB
  · exact S.V (c.blk scope hk nD hsub) helt hB
theorem snd_V (g : GOk P w K mg base cA k G) {m : Nat} (S : SndE P w K mg base N k cA G m) {ι : Type} {F : ι → Cx} {sc : Scope} {V : Wd} {wi : L2.WX} {cfg : List Sl} (c : Ctx P w K mg base N k G F sc V wi cfg) {X : Exc → Prop} {R : Sv → Prop} {n : Nat} {ir : Ex} {e : Expr}
    (hc : chkV G N (m + 1) sc ir e = true) (h : wpE G n (cfg.map absS) X ir R) : EvS F V K cA wi e cfg R X := by
  cases n with
  | zero => exact h.elim
  | succ n =>
  unfold chkV at hc
  split at hc
  · -- cst
    rename_i d kc pk pos
    have h : R (.dat d) := h
    cases d <;> cases kc <;> first | exact absurd hc Bool.false_ne_true | skip
    · exact es_c (fun _ => pe_non) (fun _ _ => .non) h
    · cases beq_iff_eq.mp hc
      exact es_c (fun _ => pe_bl) (fun _ _ => .bl _) h
    · cases beq_iff_eq.mp hc
      exact es_c (fun _ => pe_int) (fun _ _ => .int _) h
    · cases beq_iff_eq.mp hc
      exact es_c (fun _ => pe_str) (fun _ _ => .str _) h
  · -- var
    rename_i j x pos
    simp only [Bool.and_eq_true, beq_iff_eq] at hc
    obtain ⟨h1, h2⟩ := okName_of hc.2.2
    have h : match (cfg.map absS)[j]? with | some (.dat d) => R (.dat d) | some (.raw v) => R (.raw v) | _ => False := h
    cases he : (cfg.map absS)[j]? with
    | none => rw [he] at h; exact h.elim
    | some s =>
      rw [he] at h
      refine es_slot c.fm hc.1 he ?_ hc.2.1 h1 h2
      cases s <;> exact h
  · -- glb
    rename_i j x pos
    simp only [Bool.and_eq_true] at hc
    obtain ⟨h1, h2⟩ := okName_of hc.2.2
    have h : match G.cs[j]? with | some c => R (.dat c.2) | none => False := h
    cases he : G.cs[j]? with
    | none => rw [he] at h; exact h.elim
    | some z =>
      rw [he] at h hc
      obtain ⟨u, v, hm, rv, dc⟩ := g.cs j z he
      have e : z.1 = x := beq_iff_eq.mp hc.1
      subst e
      exact es_c (fun i => pe_glob (gl_of (c.fm.es i) hc.2.1) (by rw [c.fm.mg i]; exact hm) rv h1) (fun W H => dc W H) h
  · -- tup
    rename_i is es k1 pos
    rw [Bool.and_eq_true, decide_eq_true_eq] at hc
    refine es_tup ?_
    exact fun σ H i sd Q q x => snd_list S c hc.1 h σ H i sd Q (fun vs H' ds x1 i1 dn hd => q vs H' ds x1 i1 dn ⟨by omega, hd.2⟩) x
  · -- lst
    rename_i is es pos
    rw [Bool.and_eq_true, decide_eq_true_eq] at hc
    refine es_lst ?_
    exact fun σ H i sd Q q x => snd_list S c hc.1 h σ H i sd Q (fun vs H' ds x1 i1 dn hd => q vs H' ds x1 i1 dn ⟨by omega, hd.2⟩) x
  · exact es_dct0 h
  · -- bin
    rename_i op a b x o y pos
    simp only [Bool.and_eq_true, decide_eq_true_eq] at hc
    obtain ⟨rfl, ha, hb⟩ := hc
    exact es_bin c.fm (S.V c ha h) fun r hr => asD_mono hr fun d hd => S.V c hb hd
  · -- cmp
    rename_i op a b x o y pos
    simp only [Bool.and_eq_true, decide_eq_true_eq] at hc
    obtain ⟨rfl, hs, ha, hb⟩ := hc
    exact es_cmp c.fm g.hs (S.V c ha h) (fun r hr => asD_mono hr fun d hd => S.V c hb hd) (mark_of hs)
  · exact es_neg (S.V c hc h)
  · exact es_not (S.V c hc h)
  · exact snd_and S c hc h
  · exact snd_or S c hc h
  · -- ifx
    rename_i t a b x y z pos
    simp only [Bool.and_eq_true] at hc
    refine es_if ?_
    refine fun σ H i sd Q q xo => S.T c hc.1 h σ H i sd Q (fun t H' x1 i1 hb => q t H' x1 i1 ?_) xo
    cases t with
    | true =>
      rw [if_pos rfl] at hb ⊢
      exact S.V c hc.2.1 hb
    | false =>
      rw [if_neg Bool.false_ne_true] at hb ⊢
      exact S.V c hc.2.2 hb
  · -- idx
    rename_i a b x y pos
    simp only [Bool.and_eq_true] at hc
    exact es_idx c.fm (S.V c hc.2.1 h) (fun r hr => asD_mono hr fun d hd => S.V c hc.2.2 hd) (plainIx_of hc.1)
  · -- cut
    rename_i a lo hi x l u p1 pos
    simp only [Bool.and_eq_true] at hc
    refine es_cut c.fm (S.V c hc.1 h) fun r hr => asD_mono hr fun d hd => ?_
    refine fun σ H i sd Q q xo => snd_part S c hc.2.1 hd σ H i sd Q (fun o H' x1 i1 hb => q o H' x1 i1 (snd_part S c hc.2.2 hb)) xo
  · -- bi
    rename_i f is x p e es pos
    simp only [Bool.and_eq_true, beq_iff_eq] at hc
    obtain ⟨rfl, hg, hl⟩ := hc
    have st := chkL_len hl
    rw [List.all_cons, Bool.and_eq_true] at st
    refine es_bi c.fm g.hs ?_ (g.bl _ (by cases f <;> decide)) hg (fun _ => star_of st.1) (fun _ => back_of st.2)
    exact fun σ H i sd Q q xo => snd_list S c hl h σ H i sd Q (fun vs H' ds x1 i1 dn hd => q vs H' ds x1 i1 dn hd.2) xo
  · -- isi
    rename_i a ts x p y z pos
    simp only [Bool.and_eq_true, beq_iff_eq] at hc
    obtain ⟨rfl, hg, hy, hv, hi⟩ := hc
    exact es_isi c.fm g.bl (S.V c hv h) hi hg hy
  · -- fn
    rename_i j is x p e es pos
    simp only [Bool.and_eq_true] at hc
    have h : match G.fns[j]? with | some c => wpL (wpE G n (cfg.map absS) X) is fun ds => c.2.ct ds R X | none => False := h
    cases he : G.fns[j]? with
    | none => rw [he] at h; exact h.elim
    | some z =>
      rw [he] at h hc
      obtain ⟨h1, hg, hn, hl⟩ := hc
      simp only [Bool.and_eq_true, beq_iff_eq, decide_eq_true_eq, Bool.not_eq_true'] at h1
      obtain ⟨rfl, hp, ha⟩ := h1
      obtain ⟨oc, lv⟩ := g.fn j z he
      have st := chkL_len hl
      rw [List.all_cons, Bool.and_eq_true] at st
      exact es_fn c.fm c.tk oc lv hp ha.symm (snd_list S c hl h) hg (okName_of hn).1 (fun _ => star_of st.1) fun _ => back_of st.2
  · -- fnP
    rename_i i j is x p y py es pos
    simp only [Bool.and_eq_true] at hc
    have h : match G.fns[i]?, G.pot with | some c, some p => (cfg.map absS)[j]? = some (.raw (.ref p.1)) ∧ wpL (wpE G n (cfg.map absS) X) is fun ds => c.2.ct ds R X | _, _ => False := h
    cases he : G.fns[i]? with
    | none => rw [he] at h; exact h.elim
    | some z =>
      cases hp : G.pot with
      | none => rw [he, hp] at h; exact h.elim
      | some t =>
        rw [he, hp] at h
        rw [he] at hc
        obtain ⟨h1, hg, hn, hN, hv, hny, hl⟩ := hc
        simp only [Bool.and_eq_true, beq_iff_eq, decide_eq_true_eq] at h1 hN
        obtain ⟨rfl, hpt, ha⟩ := h1
        obtain ⟨oc, lv⟩ := g.fn i z he
        exact es_fnP c.fm c.tk (c.po t hp).1 oc lv hpt ha.symm hN h.1 (snd_list S c hl h.2) hv (okName_of hny).1 (okName_of hny).2 hg (okName_of hn).1 (fun _ => star_of rfl) fun _ => back_of (chkL_len hl)
  · -- lc
    rename_i elt tg src ifs x y z us scope pos
    obtain ⟨bk, hset, hsrc, htg, hif, hel⟩ := snd_lc S c hc
    exact es_lc c.fm (S.S c hsrc id h) bk htg hif hel (fun i x => noset_of hset x)
  · -- view
    refine es_view c.co (S.V (n := n) c.view hc ?_)
    rw [thaw_abs]
    exact h
  · -- viewT
    refine es_view c.co (es_imp (R := fun r => asB r fun b => R (.dat (.bool b))) (S.V (n := n) c.view hc ?_) fun r hr => ?_)
    · rw [thaw_abs]
      exact h
    · obtain ⟨b, rfl, hb⟩ := asB_is hr
      exact ⟨rfl, hb⟩
  · -- idxO
    rename_i j b x px y pos
    simp only [Bool.and_eq_true, beq_iff_eq] at hc
    obtain ⟨hN, hv, hn, hs, hb⟩ := hc
    have h : match (cfg.map absS)[j]? with | some (.own (.list ds)) => wpE G n (cfg.map absS) X b fun r => asI r fun i => ∃ d, atI ds i = some d ∧ R (.dat d) | _ => False := h
    split at h
    · rename_i ds he
      exact es_idxO c.fm c.co hN he hv hn (plainIx_of hs) (S.V c hb h)
    · exact h.elim
  · -- lc2
    rename_i elt tg src ifs tg1 src1 ifs1 x y z us y1 z1 us1 scope pos
    obtain ⟨⟨bk, hset, hsrc, hset1⟩, htg, hif, hs1, htg1, hif1, hel⟩ := snd_lc2 S c hc
    intro σ H i sd Q q xo
    have e : (ownOf N (slotsT 9 tg ++ slotsT 9 tg1)).map (·.2) = slotsT 9 tg ++ slotsT 9 tg1 := own_snd
    refine ⟨tLc2 (WI F y z) (WG (FB F scope) y) (WTs (FB F scope) us) (WI (FB F scope) y1 z1) (WG (FB F scope) y1) (WTs (FB F scope) us1) (WE (FB F scope) x) (slotsT 9 tg ++ slotsT 9 tg1) (slotsT 9 tg1), fun q => ?_, ?_⟩
    · rw [← e]
      exact pe_lc2 (c.fm.ca q) (by rw [c.fm.nn q]; exact c.fm.nd) (wi_pi q) (bk q) (fun i hi => by rw [e]; exact List.mem_append.mpr (Or.inr hi)) (fun s H C cl fp => wg_pg (F := FB F scope) (q, s, H, C, cl, fp)) (fun s H C cl fp => wts_pts (F := FB F scope) (q, s, H, C, cl, fp)) (fun s H C cl fp => wi_pi (F := FB F scope) (q, s, H, C, cl, fp)) (fun s H C cl fp => wg_pg (F := FB F scope) (q, s, H, C, cl, fp)) (fun s H C cl fp => wts_pts (F := FB F scope) (q, s, H, C, cl, fp)) (fun s H C cl fp => we_pe (F := FB F scope) (q, s, H, C, cl, fp)) (fun v => noset_of hset v) (fun env v => noset_of hset1 v)
    · exact lc_core2 c.fm (S.S c hsrc id h) htg hif hs1 htg1 hif1 hel σ H i sd Q q xo
  · -- cmp2
    rename_i o1 o2 a b d x p1 p2 y z pos
    simp only [Bool.and_eq_true, decide_eq_true_eq] at hc
    obtain ⟨rfl, rfl, hs, ha, hb, hd⟩ := hc
    refine es_cmp2 c.fm g.hs (Ra := _) (Rc := fun _ => True) (Bc := True) (S.V c ha h) (fun r hr => asD_mono hr fun _ h1 => es_imp (S.V c hb h1) fun r hr => asD_mono hr fun _ h2 => cmpW_mono h2 fun t ht => ?_) hs
    cases t with
    | true =>
      rw [if_pos rfl] at ht ⊢
      exact S.V c hd ht
    | false =>
      rw [if_neg Bool.false_ne_true] at ht ⊢
      exact ht
  · -- sorted(set)
    rename_i a x p y p2 e q pos
    simp only [Bool.and_eq_true, beq_iff_eq] at hc
    obtain ⟨rfl, rfl, hg, hg2, hs, hv⟩ := hc
    exact es_sset c.fm (S.V c hv h) (g.bl _ (by decide)) (g.bl _ (by decide)) hg hg2 hs
  · -- d[k]
    rename_i a b x y pos
    simp only [Bool.and_eq_true] at hc
    exact es_dget c.fm (S.V c hc.2.1 h) (fun r hr => asD_mono hr fun d hd => S.V c hc.2.2 hd) hc.1
  · -- get
    rename_i a b d x p1 at_ apos e f pos
    simp only [Bool.and_eq_true, beq_iff_eq] at hc
    obtain ⟨rfl, ne, nf, hl, ha, hb, hd⟩ := hc
    refine es_get2 c.fm (S.V c ha h) (fun r hr => asD_mono hr fun u ⟨es, e1, h1⟩ => ⟨es, e1, es_imp (S.V c hb h1) fun r hr => asD_mono hr fun y hy => S.V c hd hy⟩) ne nf (fun _ => rfl) (beq_iff_eq.mpr hl)
  · exact absurd hc Bool.false_ne_true
theorem snd_T (g : GOk P w K mg base cA k G) {m : Nat} (S : SndE P w K mg base N k cA G m) {ι : Type} {F : ι → Cx} {sc : Scope} {V : Wd} {wi : L2.WX} {cfg : List Sl} (c : Ctx P w K mg base N k G F sc V wi cfg) {X : Exc → Prop} {B : Bool → Prop} {n : Nat} {ir : Ex} {e : Expr}
    (hc : chkT G N (m + 1) sc ir e = true) (h : wpE G n (cfg.map absS) X ir (fun r => asB r B)) : EvB F V K cA wi e cfg B X := by
  cases n with
  | zero => exact h.elim
  | succ n =>
  unfold chkT at hc
  split at hc
  · -- cmp
    rename_i op a b x o y pos
    simp only [Bool.and_eq_true, decide_eq_true_eq] at hc
    obtain ⟨rfl, hs, ha, hb⟩ := hc
    exact eb_cmp c.fm g.hs (S.V c ha h) (fun r hr => asD_mono hr fun d hd => S.V c hb hd) (mark_of hs)
  · exact eb_not (S.T c hc h)
  · exact eb_w (snd_andT S c hc h)
  · exact eb_w (snd_orT S c hc h)
  · refine eb_view c.co (S.T (n := n) c.view hc ?_)
    rw [thaw_abs]
    exact h
  · -- cmp2
    rename_i o1 o2 a b d x p1 p2 y z pos
    simp only [Bool.and_eq_true, decide_eq_true_eq] at hc
    obtain ⟨rfl, rfl, hs, ha, hb, hd⟩ := hc
    refine eb_cmp2 c.fm g.hs (Ra := _) (Rc := fun _ => True) (S.V c ha h) (fun r hr => asD_mono hr fun _ h1 => es_imp (S.V c hb h1) fun r hr => asD_mono hr fun _ h2 => cmpW_mono h2 fun t ht => ?_) hs
    cases t with
    | true =>
      rw [if_pos rfl] at ht ⊢
      exact S.V c hd ht
    | false =>
      rw [if_neg Bool.false_ne_true] at ht ⊢
      exact ht
  · rename_i e _ _ _ _ _
    rw [Bool.and_eq_true] at hc
    exact eb_val (S.V c hc.2 h) fun i => isTrue_of hc.1
theorem snd_S (g : GOk P w K mg base cA k G) {m : Nat} (S : SndE P w K mg base N k cA G m) {ι : Type} {F : ι → Cx} {sc : Scope} {V : Wd} {wi : L2.WX} {cfg : List Sl} (c : Ctx P w K mg base N k G F sc V wi cfg) {X : Exc → Prop} {B : List PyData → Prop} {n : Nat} {t : Bool} {ir : Ex} {tg e : Expr}
    (hc : chkS G N (m + 1) sc t ir e = true) (ht : t = true → isTupE tg = true) (h : wpE G n (cfg.map absS) X ir (fun r => asS r B)) : EvI F V K cA wi tg e cfg B X := by
  cases n with
  | zero => exact h.elim
  | succ n =>
  unfold chkS at hc
  split at hc
  · rename_i a x p y pos
    simp only [Bool.and_eq_true, beq_iff_eq] at hc
    obtain ⟨rfl, hg, hy, hv⟩ := hc
    exact ei_rng c.fm (S.V c hv h) (g.bl _ (by decide)) hg fun _ => star_of hy
  · rename_i a b x p y z pos
    simp only [Bool.and_eq_true, beq_iff_eq] at hc
    obtain ⟨rfl, hg, h1, hy, hz, hv, hw⟩ := hc
    have tt := ht h1
    cases tg <;> first | exact absurd tt Bool.false_ne_true | skip
    exact ei_zip c.fm (S.V c hv h) (fun r hr => asD_mono hr fun d hd => S.V c hw hd) (g.bl _ (by decide)) hg (fun _ => star_of hy) (fun _ => star_of hz) fun _ => back_of (by rw [List.all_cons, hz]; rfl)
  · rename_i a x p y pos
    simp only [Bool.and_eq_true, beq_iff_eq] at hc
    obtain ⟨rfl, hg, h1, hy, hv⟩ := hc
    have tt := ht h1
    cases tg <;> first | exact absurd tt Bool.false_ne_true | skip
    exact ei_enu c.fm (S.V c hv h) (g.bl _ (by decide)) hg fun _ => star_of hy
  · rename_i a x p y pos
    simp only [Bool.and_eq_true, beq_iff_eq] at hc
    obtain ⟨rfl, hg, h1, hy, hv⟩ := hc
    have tt := ht h1
    cases tg <;> first | exact absurd tt Bool.false_ne_true | skip
    exact ei_enuT c.fm (S.V c hv h) (g.bl _ (by decide)) hg fun _ => star_of hy
  · exact ei_seq c.fm (S.V c hc h)
theorem snd_E (g : GOk P w K mg base cA k G) : ∀ m, SndE P w K mg base N k cA G m
  | 0 => ⟨fun _ _ _ _ _ _ hc => absurd hc Bool.false_ne_true, fun _ _ _ _ _ _ hc => absurd hc Bool.false_ne_true, fun _ _ _ _ _ _ _ _ hc => absurd hc Bool.false_ne_true⟩
  | m + 1 => ⟨fun c => snd_V g (snd_E g m) c, fun c => snd_T g (snd_E g m) c, fun c => snd_S g (snd_E g m) c⟩
end
end Dr

set_option Elab.async false
set_option linter.all false
set_option maxRecDepth 100000
set_option maxHeartbeats 2000000
namespace Dr
open PySem PySem.Spec PyProof.Rows L2 Cr

/-! ## blocks -/
def Wc (W : Wd) (cfg : List Sl) : Wd where
  M a := W.M a ∨ ∃ c ∈ cellsOf cfg, c.1 = a
  I H := W.I H ∧ ∀ c ∈ cellsOf cfg, H c.1 = some c.2
  has H a i m := by
    rcases m with m | ⟨c, h, rfl⟩
    · exact W.has H a i.1 m
    · rw [i.2 c h]
      exact fun z => nomatch z
  loc H H' i x := ⟨W.loc H H' i.1 fun a m => x a (Or.inl m), fun c h => (x c.1 (Or.inr ⟨c, h, rfl⟩)).trans (i.2 c h)⟩
def Apart (cfg : List Sl) : Prop := ∀ (i j : Nat) s t, cfg[i]? = some s → cfg[j]? = some t → i ≠ j → ∀ c ∈ cellS s, ∀ c' ∈ cellS t, c.1 ≠ c'.1
structure StC (W : Wd) (K : PySem.W.Frag) (Ke : Addr → HO → Prop) (σ : L2.St) (H : Hp) (cfg : List Sl) : Prop where
  ap : Apart cfg
  out : ∀ c ∈ cellsOf cfg, ¬ W.M c.1
  inv : (Wc W cfg).I H
  sd : Sd (Wc W cfg) K H σ cfg
  ke : ∀ a o, Ke a o → H a = some o ∧ ¬ W.M a ∧ ∀ c ∈ cellsOf cfg, c.1 ≠ a
/-- what is handed back -/
def RvK (W : Wd) (K : PySem.W.Frag) (Ke : Addr → HO → Prop) (H : Hp) (v : L2.V) : Sv → Prop
  | .dat d => Dn W K H v d
  | .own d => ∃ p, v = .ref p ∧ (∀ o, ¬ Ke p o) ∧ ¬ W.M p ∧ OwnAt (W.opn p) K H p d
  | .raw u => v = u
  | .any => True
structure Po' where
  nx : List Sv → Prop
  rt : Sv → Prop
  bk : List Sv → Prop
  ct : List Sv → Prop
  xc : Exc → List Sv → Prop
structure GoodC (W : Wd) (K : PySem.W.Frag) (cA : Str → Value) (wi : L2.WX) (Ke : Addr → HO → Prop) (P : Po') (D : Ends) : Prop where
  nx : ∀ σ H cfg, StC W K Ke σ H cfg → P.nx (cfg.map absS) → D.nx σ H
  rt : ∀ v H r, W.I H → (∀ a o, Ke a o → H a = some o) → RvK W K Ke H v r → P.rt r → D.rt v H
  bk : ∀ σ H cfg, StC W K Ke σ H cfg → P.bk (cfg.map absS) → D.bk σ H
  ct : ∀ σ H cfg, StC W K Ke σ H cfg → P.ct (cfg.map absS) → D.ct σ H
  xc : ∀ x cls d σ H cfg, StC W K Ke σ H cfg → IsXc cA W K H x cls d → P.xc x (cfg.map absS) → wi cls d σ H
def W1 {ι : Type} (F : ι → Cx) (st : Stmt) : TS := fun D σ H => ∃ t, (∀ i, PS (F i) st t) ∧ t D σ H
section
variable {ι : Type} (F : ι → Cx) (W : Wd) (K : PySem.W.Frag) (cA : Str → Value) (wi : L2.WX)
def B1C (st : Stmt) (env : List Sv) (P : Po') : Prop := ∀ Ke σ H cfg D, cfg.map absS = env → StC W K Ke σ H cfg → GoodC W K cA wi Ke P D → W1 F st D σ H
def BdC (ss : List Stmt) (env : List Sv) (P : Po') : Prop := ∀ Ke σ H cfg D, cfg.map absS = env → StC W K Ke σ H cfg → GoodC W K cA wi Ke P D → WS F ss D σ H
end
section
variable {W : Wd} {K : PySem.W.Frag} {Ke : Addr → HO → Prop} {σ : L2.St} {H H' : Hp} {cfg : List Sl}
theorem StC.mono (s : StC W K Ke σ H cfg) (x : Wx (Wc W cfg) H H') (i : (Wc W cfg).I H') : StC W K Ke σ H' cfg where
  ap := s.ap
  out := s.out
  inv := i
  sd := s.sd.mono x
  ke := fun a o h => by
    obtain ⟨h1, h2, h3⟩ := s.ke a o h
    exact ⟨x a o (fun m => m.elim h2 fun ⟨c, hc, e⟩ => h3 c hc e) h1, h2, h3⟩
theorem StC.less {σ' : L2.St} {cfg' : List Sl} (s : StC W K Ke σ H cfg) (ap : Apart cfg') (sub : ∀ c ∈ cellsOf cfg', c ∈ cellsOf cfg) (sd : Sd (Wc W cfg) K H σ' cfg') : StC W K Ke σ' H cfg' where
  ap := ap
  out := fun c h => s.out c (sub c h)
  inv := ⟨s.inv.1, fun c h => s.inv.2 c (sub c h)⟩
  sd := Sd.to (W := Wc W cfg) (W' := Wc W cfg') (fun a _ m => m.imp id fun ⟨c, h, e⟩ => ⟨c, sub c h, e⟩) sd
  ke := fun a o h => by
    obtain ⟨h1, h2, h3⟩ := s.ke a o h
    exact ⟨h1, h2, fun c hc => h3 c (sub c hc)⟩
theorem apart_set {j : Nat} {t : Sl} (ap : Apart cfg) (h : ∀ c ∈ cellS t, ∀ (i : Nat) s, cfg[i]? = some s → i ≠ j → ∀ c' ∈ cellS s, c.1 ≠ c'.1) : Apart (cfg.set j t) := by
  intro a b s u ha hb ne c hc c' hc'
  rcases set_get ha with ⟨e1, e2⟩ | ⟨n1, ha'⟩
  · rcases set_get hb with ⟨e3, e4⟩ | ⟨n2, hb'⟩
    · exact absurd (e1.trans e3.symm) ne
    · exact h c (e2 ▸ hc) b u hb' n2 c' hc'
  · rcases set_get hb with ⟨e3, e4⟩ | ⟨n2, hb'⟩
    · exact fun e => h c' (e4 ▸ hc') a s ha' n1 c hc e.symm
    · exact ap a b s u ha' hb' ne c hc c' hc'
theorem apart_none {j : Nat} {t : Sl} (ap : Apart cfg) (h : cellS t = []) : Apart (cfg.set j t) := apart_set ap fun c hc => by rw [h] at hc; exact absurd hc List.not_mem_nil
theorem Kept.apart {cfg cfg' : List Sl} (h : Kept cfg cfg') (ap : Apart cfg) : Apart cfg' := fun i j s t hi hj ne c hc c' hc' => by
  rcases h i s hi with e | hi
  · rw [e] at hc; exact absurd hc List.not_mem_nil
  rcases h j t hj with e | hj
  · rw [e] at hc'; exact absurd hc' List.not_mem_nil
  exact ap i j s t hi hj ne c hc c' hc'
theorem StC.set {v : L2.V} {t : Sl} (s : StC W K Ke σ H cfg) (j : Nat) (h : cellS t = []) (dv : Dv (Wc W cfg) K H (some v) t) : StC W K Ke (σ.set j (some v)) H (cfg.set j t) :=
  s.less (apart_none s.ap h) (fun c hc => cells_set h hc) (Sd.set dv j s.sd)
/-- a new own thing in a slot -/
theorem StC.fresh {H0 : Hp} {p : Addr} {o : HO} {d : PyData} (s : StC W K Ke σ H0 cfg) (j : Nat) (x : Wx (Wc W cfg) H0 H) (i : (Wc W cfg).I H) (hp : H0 p = none) (hH : H p = some o) (od : OD ((Wc W cfg).opn p) K H o d) (hj : j < cfg.length) : StC W K Ke (σ.set j (some (.ref p))) H (cfg.set j (.od p o d)) := by
  have nM : ¬ (Wc W cfg).M p := fun m => (Wc W cfg).has H0 p s.inv m hp
  have nc : ∀ c ∈ cellsOf cfg, c.1 ≠ p := fun c hc e => nM (Or.inr ⟨c, hc, e⟩)
  have sub : ∀ c ∈ cellsOf (cfg.set j (.od p o d)), c = (p, o) ∨ c ∈ cellsOf cfg := fun c hc => by
    obtain ⟨a, t, ha, ht⟩ := mem_cells.mp hc
    rcases set_get ha with ⟨rfl, rfl⟩ | ⟨_, ha⟩
    · exact Or.inl (List.mem_singleton.mp ht)
    · exact Or.inr (mem_cells.mpr ⟨a, t, ha, ht⟩)
  have toM : ∀ a, (Wc W (cfg.set j (.od p o d))).M a → (Wc W cfg).M a ∨ a = p := fun a m => by
    rcases m with m | ⟨c, hc, rfl⟩
    · exact Or.inl (Or.inl m)
    · rcases sub c hc with rfl | hc
      · exact Or.inr rfl
      · exact Or.inl (Or.inr ⟨c, hc, rfl⟩)
  refine ⟨?_, ?_, ?_, ?_, ?_⟩
  · refine apart_set s.ap fun c hc a t ha _ c' hc' e => ?_
    rw [List.mem_singleton.mp hc] at e
    exact nc c' (mem_cells.mpr ⟨a, t, ha, hc'⟩) e.symm
  · intro c hc
    rcases sub c hc with rfl | hc
    · exact fun m => nM (Or.inl m)
    · exact s.out c hc
  · refine ⟨i.1, fun c hc => ?_⟩
    rcases sub c hc with rfl | hc
    · exact hH
    · exact i.2 c hc
  · have sd0 : Sd (Wc W (cfg.set j (.od p o d))) K H0 σ cfg := Sd.to (W := Wc W cfg) (fun a n m => (toM a m).elim id fun e => absurd (e ▸ hp) n) s.sd
    have x' : Wx (Wc W (cfg.set j (.od p o d))) H0 H := fun a ob n h => by
      by_cases m : (Wc W cfg).M a
      · rcases m with m | ⟨c, hc, rfl⟩
        · exact absurd (Or.inl m) n
        · rw [s.inv.2 c hc] at h
          rw [i.2 c hc]
          exact h
      · exact x a ob m h
    exact Sd.set (v := .ref p) (s := .od p o d) ⟨rfl, OD.to (W := (Wc W cfg).opn p) (fun a _ m => toM a m) od⟩ j (sd0.mono x')
  · intro a ob h
    obtain ⟨h1, h2, h3⟩ := s.ke a ob h
    refine ⟨x a ob (fun m => m.elim h2 fun ⟨c, hc, e⟩ => h3 c hc e) h1, h2, fun c hc => ?_⟩
    rcases sub c hc with rfl | hc
    · exact fun e => by rw [← e, hp] at h1; exact nomatch h1
    · exact h3 c hc
/-- an own thing that changes where it stands -/
theorem StC.put {j : Nat} {p : Addr} {o o' : HO} {d' : PyData} {s0 : Sl} (s : StC W K Ke σ H cfg) (hj : cfg[j]? = some s0) (hc : cellS s0 = [(p, o)]) (hs : σ[j]? = some (some (.ref p))) (od : OD (Wc W cfg) K H o' d') : StC W K Ke σ (upd H p o') (cfg.set j (.od p o' d')) := by
  have pc : (p, o) ∈ cellsOf cfg := mem_cells.mpr ⟨j, s0, hj, by rw [hc]; exact List.mem_cons_self⟩
  have jl : j < cfg.length := (List.getElem?_eq_some_iff.mp hj).1
  have other : ∀ (i : Nat) t, cfg[i]? = some t → i ≠ j → ∀ c ∈ cellS t, c.1 ≠ p := fun i t h n c hc' => s.ap i j t s0 h hj n c hc' (p, o) (by rw [hc]; exact List.mem_cons_self)
  have sub : ∀ c ∈ cellsOf (cfg.set j (.od p o' d')), c = (p, o') ∨ (c ∈ cellsOf cfg ∧ c.1 ≠ p) := fun c hc => by
    obtain ⟨a, t, ha, ht⟩ := mem_cells.mp hc
    rcases set_get ha with ⟨rfl, rfl⟩ | ⟨n, ha⟩
    · exact Or.inl (List.mem_singleton.mp ht)
    · exact Or.inr ⟨mem_cells.mpr ⟨a, t, ha, ht⟩, other a t ha n c ht⟩
  have toM : ∀ a, (Wc W (cfg.set j (.od p o' d'))).M a → (Wc W cfg).M a := fun a m => by
    rcases m with m | ⟨c, hc, rfl⟩
    · exact Or.inl m
    · rcases sub c hc with rfl | hc
      · exact Or.inr ⟨_, pc, rfl⟩
      · exact Or.inr ⟨c, hc.1, rfl⟩
  have pM : (Wc W (cfg.set j (.od p o' d'))).M p := Or.inr ⟨(p, o'), mem_cells.mpr ⟨j, _, List.getElem?_set_self jl, List.mem_cons_self⟩, rfl⟩
  have keep : Wx (Wc W (cfg.set j (.od p o' d'))) H (upd H p o') := fun a ob n h => by
    rw [upd_ne (show a ≠ p from fun e => n (by rw [e]; exact pM))]
    exact h
  refine ⟨?_, ?_, ?_, ?_, ?_⟩
  · refine apart_set s.ap fun c hc a t ha n c' hc' e => ?_
    rw [List.mem_singleton.mp hc] at e
    exact other a t ha n c' hc' e.symm
  · intro c hc
    rcases sub c hc with rfl | hc
    · exact s.out (p, o) pc
    · exact s.out c hc.1
  · refine ⟨W.loc _ _ s.inv.1 fun a m => upd_ne fun e => s.out _ pc (e ▸ m), fun c hc => ?_⟩
    rcases sub c hc with rfl | hc
    · exact upd_same
    · rw [upd_ne hc.2]
      exact s.inv.2 c hc.1
  · have sd1 : Sd (Wc W (cfg.set j (.od p o' d'))) K (upd H p o') σ cfg := (Sd.to (W := Wc W cfg) (fun a _ m => toM a m) s.sd).mono keep
    have := Sd.set (v := .ref p) (s := .od p o' d') ⟨rfl, OD.mono keep (OD.to (W := Wc W cfg) (fun a _ m => toM a m) od)⟩ j sd1
    have same : σ.set j (some (.ref p)) = σ := by
      obtain ⟨hj', e'⟩ := List.getElem?_eq_some_iff.mp hs
      rw [← e', List.set_getElem_self]
    rwa [same] at this
  · intro a ob h
    obtain ⟨h1, h2, h3⟩ := s.ke a ob h
    refine ⟨?_, h2, fun c hc => ?_⟩
    · rw [upd_ne fun e => h3 _ pc e.symm]
      exact h1
    · rcases sub c hc with rfl | hc
      · exact h3 (p, o) pc
      · exact h3 c hc.1
theorem own_slot {j : Nat} {d : PyData} (s : StC W K Ke σ H cfg) (h : (cfg.map absS)[j]? = some (.own d)) : ∃ s0 p o, cfg[j]? = some s0 ∧ cellS s0 = [(p, o)] ∧ σ[j]? = some (some (.ref p)) ∧ OD (Wc W cfg) K H o d ∧ H p = some o := by
  rw [List.getElem?_map] at h
  cases hj : cfg[j]? with
  | none => rw [hj] at h; exact nomatch h
  | some z =>
    rw [hj] at h
    obtain ⟨v, hv, dv⟩ := s.sd.get hj
    cases z with
    | ml p us es =>
      cases h
      obtain ⟨e, dn⟩ := dv
      subst e
      exact ⟨_, p, .lst us, rfl, rfl, hv, dn, s.inv.2 (p, .lst us) (mem_cells.mpr ⟨j, _, hj, List.mem_cons_self⟩)⟩
    | od p o d' =>
      have e : d' = d := by cases h; rfl
      subst e
      obtain ⟨e, dn⟩ := dv
      subst e
      exact ⟨_, p, o, rfl, rfl, hv, dn, s.inv.2 (p, o) (mem_cells.mpr ⟨j, _, hj, List.mem_cons_self⟩)⟩
    | dat _ => cases h
    | raw _ => cases h
    | any => cases h
/-- an own thing that is own no more -/
theorem StC.freeze {j : Nat} {d : PyData} (s : StC W K Ke σ H cfg) (h : (cfg.map absS)[j]? = some (.own d)) : StC W K Ke σ H (cfg.set j (.dat d)) := by
  obtain ⟨s0, p, o, hj, hc, hs, od, hp⟩ := own_slot s h
  have pc : (p, o) ∈ cellsOf cfg := mem_cells.mpr ⟨j, s0, hj, by rw [hc]; exact List.mem_cons_self⟩
  have other : ∀ (i : Nat) t, cfg[i]? = some t → i ≠ j → ∀ c ∈ cellS t, c.1 ≠ p := fun i t h n c hc' => s.ap i j t s0 h hj n c hc' (p, o) (by rw [hc]; exact List.mem_cons_self)
  have sub : ∀ c ∈ cellsOf (cfg.set j (.dat d)), c ∈ cellsOf cfg ∧ c.1 ≠ p := fun c hc => by
    obtain ⟨a, t, ha, ht⟩ := mem_cells.mp hc
    rcases set_get ha with ⟨rfl, rfl⟩ | ⟨n, ha⟩
    · exact absurd ht List.not_mem_nil
    · exact ⟨mem_cells.mpr ⟨a, t, ha, ht⟩, other a t ha n c ht⟩
  have toM : ∀ a, (Wc W (cfg.set j (.dat d))).M a → (Wc W cfg).M a ∧ a ≠ p := fun a m => by
    rcases m with m | ⟨c, hc, rfl⟩
    · exact ⟨Or.inl m, fun e => s.out _ pc (e ▸ m)⟩
    · exact ⟨Or.inr ⟨c, (sub c hc).1, rfl⟩, (sub c hc).2⟩
  have nM : ¬ (Wc W (cfg.set j (.dat d))).M p := fun m => (toM p m).2 rfl
  have dn : Dn (Wc W (cfg.set j (.dat d))) K H (.ref p) d := by
    have od : OD (Wc W (cfg.set j (.dat d))) K H o d := OD.to (W := Wc W cfg) (fun a _ m => (toM a m).1) od
    unfold OD at od
    split at od
    · exact .lst ⟨nM, hp⟩ od
    · exact .dct nM hp od
    · exact od.elim
  refine ⟨apart_none s.ap rfl, fun c hc => s.out c (sub c hc).1, ⟨s.inv.1, fun c hc => s.inv.2 c (sub c hc).1⟩, ?_, fun a ob h => ?_⟩
  · have sd1 : Sd (Wc W (cfg.set j (.dat d))) K H σ cfg := Sd.to (W := Wc W cfg) (fun a _ m => (toM a m).1) s.sd
    have := Sd.set (v := .ref p) (s := .dat d) dn.dv j sd1
    have same : σ.set j (some (.ref p)) = σ := by
      obtain ⟨hj', e'⟩ := List.getElem?_eq_some_iff.mp hs
      rw [← e', List.set_getElem_self]
    rwa [same] at this
  · obtain ⟨h1, h2, h3⟩ := s.ke a ob h
    exact ⟨h1, h2, fun c hc => h3 c (sub c hc).1⟩
end
end Dr

set_option Elab.async false
set_option linter.all false
set_option maxRecDepth 100000
set_option maxHeartbeats 2000000
namespace Dr
open PySem PySem.Spec PyProof.Rows L2 Cr
inductive St where
  | asg (tg : Tgt) (e : Ex)
  | asgO (j : Nat) (e : Ex)
  | par (i j : Nat) (a b : Ex)
  | app (j : Nat) (e : Ex)
  | ext (j : Nat) (e : Ex)
  | setL (j : Nat) (i e : Ex)
  | ifs (c : Ex) (a b : List St)
  | for_ (tg : Tgt) (src : Ex) (body : List St)
  | whl (c : Ex) (body : List St)
  | ret (e : Ex)
  | retO (j : Nat)
  | retN
  | brk
  | cnt
  | pas
  | exs (e : Ex)
  | rse0 (i : Nat)
  | rse1 (i : Nat) (a : Ex)
  | frz (j : Nat)
def wpSeq (f : St → List Sv → Po' → Prop) : List St → List Sv → Po' → Prop
  | [], env, P => P.nx env
  | s :: r, env, P => f s env { P with nx := fun e => wpSeq f r e P }
/-- the turns of a loop -/
def forW (tf : PyData → List Sv → (List Sv → Prop) → Prop) (bf : List Sv → Po' → Prop) (P : Po') : List PyData → List Sv → Prop
  | [], env => P.nx env
  | d :: ds, env => tf d env fun e1 => bf e1 { P with nx := forW tf bf P ds, ct := forW tf bf P ds, bk := P.nx }
def whlW (cf : List Sv → (Bool → Prop) → Prop) (bf : List Sv → Po' → Prop) (P : Po') : Nat → List Sv → Prop
  | 0, _ => False
  | m + 1, env => cf env fun b => if b = true then bf env { P with nx := whlW cf bf P m, ct := whlW cf bf P m, bk := P.nx } else P.nx env
def keepS (r : Sv) (k : Sv → Prop) : Prop := match r with
  | .dat d => k (.dat d)
  | .own d => k (.dat d)
  | .raw v => k (.raw v)
  | .any => False
def wp1 (G : GI) : Nat → St → List Sv → Po' → Prop
  | 0, _, _, _ => False
  | n + 1, s, env, P => match s with
    | .asg tg e => wpE G 60 env (fun x => P.xc x env) e fun r => match tg with
      | .nm j => keepS r fun s => P.nx (env.set j s)
      | tg => asD r fun d => tgW 9 tg d env P.nx
    | .asgO j e => wpE G 60 env (fun x => P.xc x env) e fun r => match r with
      | .own d => j < env.length ∧ P.nx (env.set j (.own d))
      | _ => False
    | .par i j a b => wpE G 60 env (fun x => P.xc x env) a fun r => wpE G 60 env (fun x => P.xc x env) b fun q => keepS r fun r => keepS q fun q => P.nx ((env.set i r).set j q)
    | .app j e => match env[j]? with
      | some (.own (.list ds)) => wpE G 60 env (fun x => P.xc x env) e fun r => asD r fun d => ds.length < 16777215 ∧ P.nx (env.set j (.own (.list (ds ++ [d]))))
      | _ => False
    | .ext j e => match env[j]? with
      | some (.own (.list ds)) => wpE G 60 env (fun x => P.xc x env) e fun r => asD r fun d => ∃ es, d = .list es ∧ ds.length + es.length ≤ 16777215 ∧ P.nx (env.set j (.own (.list (ds ++ es))))
      | _ => False
    | .setL j i e => match env[j]? with
      | some (.own (.list ds)) => wpE G 60 env (fun x => P.xc x env) e fun r => asD r fun d => wpE G 60 env (fun x => P.xc x env) i fun r => asI r fun n => ∃ m, ixN ds.length n = some m ∧ P.nx (env.set j (.own (.list (ds.set m d))))
      | some (.own (.dict es)) => wpE G 60 env (fun x => P.xc x env) e fun r => asD r fun d => wpE G 60 env (fun x => P.xc x env) i fun r => asD r fun y => keyW y fun q => es.length < 16777215 ∧ P.nx (env.set j (.own (.dict (putD es q d))))
      | _ => False
    | .ifs c a b => wpE G 60 env (fun x => P.xc x env) c fun r => asB r fun t => if t = true then wpSeq (wp1 G n) a env P else wpSeq (wp1 G n) b env P
    | .for_ tg src body => wpE G 60 env (fun x => P.xc x env) src fun r => asS r fun ds => forW (fun d e k => tgW 9 tg d e k) (fun e Q => wpSeq (wp1 G n) body e Q) P ds env
    | .whl c body => ∃ m, whlW (fun e k => wpE G 60 e (fun x => P.xc x e) c fun r => asB r k) (fun e Q => wpSeq (wp1 G n) body e Q) P m env
    | .ret e => wpE G 60 env (fun x => P.xc x env) e P.rt
    | .retO j => match env[j]? with
      | some (.own d) => P.rt (.own d)
      | _ => False
    | .retN => P.rt (.dat .none)
    | .brk => P.bk env
    | .cnt => P.ct env
    | .pas => P.nx env
    | .exs e => wpE G 60 env (fun x => P.xc x env) e fun _ => P.nx env
    | .rse0 i => match G.xs[i]? with
      | some (x, false) => P.xc ⟨x, []⟩ env
      | _ => False
    | .rse1 i a => match G.xs[i]? with
      | some (x, true) => wpE G 60 env (fun x => P.xc x env) a fun r => asI r fun n => n.natAbs.log2 < 1920 ∧ P.xc ⟨x, [("place", .int n)]⟩ env
      | _ => False
    | .frz j => match env[j]? with
      | some (.own d) => P.nx (env.set j (.dat d))
      | _ => False
def noComp : Expr → Bool
  | .ListComp _ _ _ _ | .SetComp _ _ _ _ | .DictComp _ _ _ _ _ => false
  | _ => true
def noTupE : Expr → Bool
  | .Tuple _ _ _ => false
  | _ => true
def celB (sc : Scope) (x : Str) : Bool := sc.names.lookup x == some .cell
/-- a name that takes what comes: a local one, or one that is a cell -/
def okT (sc : Scope) (x : Str) : Bool := lclB sc x || celB sc x
def chkSeq (f : St → Stmt → Bool) : List St → List Stmt → Bool
  | [], [] => true
  | .frz _ :: r, ss => chkSeq f r ss
  | s :: r, st :: ss => f s st && chkSeq f r ss
  | _, _ => false
def scopeNot (x : Str) (scope : Scope) : Bool := !(scope.names.any fun (n, k) => n == x && (k == .local || k == .cell))
def chk1 (G : GI) (N : List Str) (sc : Scope) : Nat → St → Stmt → Bool
  | 0, _, _ => false
  | m + 1, s, st => match s, st with
    | .asg (.nm j) (.lc a b c d), .Assign [.Name x px] (.ListComp e [⟨y, z, us, 0⟩] scope cpos) pos => N[j]? == some x && (lclB sc x && (px.line == cpos.line && (scopeNot x scope && (blkC N sc scope (ownOf N (slotsT 9 b)) && (noSet z && (chkS G N 59 sc (isTupE y) c z && (chkG N (nmB sc scope) 9 b y && (decide (us.length ≤ 1) && (chkL (chkT G N 59 (relS scope sc)) d us && chkV G N 59 (relS scope sc) a e)))))))))
    | .asg (.nm j) (.lc2 a b c d b1 c1 d1), .Assign [.Name x px] (.ListComp e [⟨y, z, us, 0⟩, ⟨y1, z1, us1, 0⟩] scope cpos) pos => N[j]? == some x && (lclB sc x && (px.line == cpos.line && (scopeNot x scope && (blkC N sc scope (ownOf N (slotsT 9 b ++ slotsT 9 b1)) && (noSet z && (chkS G N 59 sc (isTupE y) c z && (chkG N (nmB sc scope) 9 b y && (decide (us.length ≤ 1) && (chkL (chkT G N 59 (relS scope sc)) d us && (noSet z1 && (chkS G N 59 (relS scope sc) (isTupE y1) c1 z1 && (chkG N (nmB sc scope) 9 b1 y1 && (decide (us1.length ≤ 1) && (chkL (chkT G N 59 (relS scope sc)) d1 us1 && chkV G N 59 (relS scope sc) a e))))))))))))))
    | .asg (.nm j) i, .Assign [.Name x px] e pos => N[j]? == some x && (noComp e && (okT sc x && chkV G N 60 sc i e))
    | .asg (.tp ts) i, .Assign [.Tuple es k1 p1] e pos => noTupE e && (chkG N (okT sc) 9 (.tp ts) (.Tuple es k1 p1) && chkV G N 60 sc i e)
    | .asgO j (.lc a b c d), .Assign [.Name x px] (.ListComp e [⟨y, z, us, 0⟩] scope cpos) pos => N[j]? == some x && (lclB sc x && (px.line == cpos.line && (scopeNot x scope && (blkC N sc scope (ownOf N (slotsT 9 b)) && (noSet z && (chkS G N 59 sc (isTupE y) c z && (chkG N (nmB sc scope) 9 b y && (decide (us.length ≤ 1) && (chkL (chkT G N 59 (relS scope sc)) d us && chkV G N 59 (relS scope sc) a e)))))))))
    | .asgO j (.lc2 a b c d b1 c1 d1), .Assign [.Name x px] (.ListComp e [⟨y, z, us, 0⟩, ⟨y1, z1, us1, 0⟩] scope cpos) pos => N[j]? == some x && (lclB sc x && (px.line == cpos.line && (scopeNot x scope && (blkC N sc scope (ownOf N (slotsT 9 b ++ slotsT 9 b1)) && (noSet z && (chkS G N 59 sc (isTupE y) c z && (chkG N (nmB sc scope) 9 b y && (decide (us.length ≤ 1) && (chkL (chkT G N 59 (relS scope sc)) d us && (noSet z1 && (chkS G N 59 (relS scope sc) (isTupE y1) c1 z1 && (chkG N (nmB sc scope) 9 b1 y1 && (decide (us1.length ≤ 1) && (chkL (chkT G N 59 (relS scope sc)) d1 us1 && chkV G N 59 (relS scope sc) a e))))))))))))))
    | .asgO j i, .Assign [.Name x px] e pos => N[j]? == some x && (noComp e && (okT sc x && chkV G N 60 sc i e))
    | .par i j a b, .Assign [.Tuple [.Name x px, .Name y py] kt pt] (.Tuple [e, f] k2 pt2) pos => N[i]? == some x && (N[j]? == some y && (decide (i ≠ j) && (lclB sc x && (lclB sc y && (px.line == py.line && (noStar e && (noStar f && (!([e, f].all (foldedForSure 8)) && (!([e, f].all (constantsAlone 8)) && (chkV G N 60 sc a e && chkV G N 60 sc b f))))))))))
    | .app j i, .Expr (.Call (.Attribute (.Name x p1) at_ apos) [e] [] pos) epos => at_ == ("append" : Str) && (N[j]? == some x && (visB sc x && (okName x && (apos.endLine == pos.line && (noStar e && chkV G N 60 sc i e)))))
    | .ext j i, .Expr (.Call (.Attribute (.Name x p1) at_ apos) [e] [] pos) epos => at_ == ("extend" : Str) && (N[j]? == some x && (visB sc x && (okName x && (apos.endLine == pos.line && (noStar e && chkV G N 60 sc i e)))))
    | .setL j i v, .Assign [.Subscript (.Name x p1) b p2] e pos => N[j]? == some x && (visB sc x && (okName x && (noComp e && (noSlice b && (chkV G N 60 sc v e && chkV G N 60 sc i b)))))
    | .ifs c a b, .If e x y _ => chkT G N 60 sc c e && (chkSeq (chk1 G N sc m) a x && chkSeq (chk1 G N sc m) b y)
    | .for_ tg src body, .For y z ss [] _ => noSet z && (chkS G N 60 sc (isTupE y) src z && (chkG N (okT sc) 9 tg y && chkSeq (chk1 G N sc m) body ss))
    | .whl c body, .While e ss [] _ => chkT G N 60 sc c e && chkSeq (chk1 G N sc m) body ss
    | .ret i, .Return (some e) _ => chkV G N 60 sc i e
    | .retO j, .Return (some (.Name x _)) _ => N[j]? == some x && (visB sc x && okName x)
    | .retN, .Return none _ => true
    | .brk, .Break _ => true
    | .cnt, .Continue _ => true
    | .pas, .Pass _ => true
    | .exs i, .Expr e pos => noComp e && chkV G N 60 sc i e
    | .rse0 i, .Raise (some (.Call (.Name x _) [.Constant (.str _) _ _] [] _)) none _ => (match G.xs[i]? with | some c => c.1 == x | none => false) && (glB sc x && okName x)
    | .rse1 i a, .Raise (some (.Call (.Name x _) [e] [] _)) none _ => (match G.xs[i]? with | some c => c.1 == x | none => false) && (glB sc x && (okName x && (noStar e && chkV G N 60 sc a e)))
    | _, _ => false
end Dr

set_option Elab.async false
set_option linter.all false
set_option maxRecDepth 100000
set_option maxHeartbeats 4000000
namespace Dr
open PySem PySem.Spec PyProof.Rows L2 Cr
/-- what stands around a block -/
structure BCtx {ι : Type} (P : Program) (w : World) (K : PySem.W.Frag) (mg : Str → Option Value) (base : Heap) (N : List Str) (k : Nat) (cA : Str → Value) (G : GI) (F : ι → Cx) (sc : Scope) (W : Wd) (wi : L2.WX) : Prop where
  fm : Fam P w K mg base N k sc F
  tk : ∀ i, Takes (F i) wi
  cel : ∀ i x, celB sc x = true → (F i).fn x = true
  pp : ∀ i, PassesOwn (model (F i).prog (F i).w) (F i).A (F i).env (F i).xe
  pw : ∀ t, G.pot = some t → Draws W t.1 t.2.1 t.2.2
  g : GOk P w K mg base cA k G
theorem pss_W1 {X : Cx} {st : Stmt} {rest : List Stmt} {t u : TS} (h1 : PS X st t) (h2 : PSs X rest u) : PSs X (st :: rest) (tSeq t u) := pss_cons h1 h2
section
variable {ι : Type} {F : ι → Cx} {P : Program} {w : World} {K : PySem.W.Frag} {mg : Str → Option Value} {base : Heap} {N : List Str} {k : Nat} {cA : Str → Value} {G : GI} {sc : Scope} {W : Wd} {wi : L2.WX}
theorem draws_many {p c : Addr} {ns : List Int} {cfg : List Sl} (d : Draws W p c ns) (out : ∀ z ∈ cellsOf cfg, ¬ W.M z.1) : Draws (Wc W cfg) p c ns where
  mp := Or.inl d.mp
  mc := Or.inl d.mc
  pot H i := d.pot H i.1
  step H H' i x pt := ⟨d.step H H' i.1 (fun a m n => x a (Or.inl m) n) pt, fun z h => (x z.1 (Or.inr ⟨z, h, rfl⟩) fun e => out z h (e ▸ d.mp)).trans (i.2 z h)⟩
theorem StC.ctx {Ke : Addr → HO → Prop} {σ : L2.St} {H : Hp} {cfg : List Sl} (b : BCtx P w K mg base N k cA G F sc W wi) (s : StC W K Ke σ H cfg) : Ctx P w K mg base N k G F sc (Wc W cfg) wi cfg where
  fm := b.fm
  tk := b.tk
  co := ⟨fun c h => Or.inr ⟨c, h, rfl⟩, fun H i c h => i.2 c h⟩
  po := fun t ht => ⟨draws_many (b.pw t ht) s.out, fun c h => ⟨fun e => s.out c h (e ▸ (b.pw t ht).mp), fun e => s.out c h (e ▸ (b.pw t ht).mc)⟩⟩
theorem xd_to {V U : Wd} {H : Hp} (m : ∀ a, H a ≠ none → U.M a → V.M a) : ∀ {xd : XD} {fs : List (Str × PyData)}, XdOf V K H xd fs → XdOf U K H xd fs
  | [], [], _ => trivial
  | _ :: _, _ :: _, ⟨a, b, c⟩ => ⟨a, b.to m, xd_to m c⟩
  | [], _ :: _, h => h.elim
  | _ :: _, [], h => h.elim
theorem GoodC.xok {Ke : Addr → HO → Prop} {σ : L2.St} {H : Hp} {cfg : List Sl} {Po : Po'} {D : Ends} (s : StC W K Ke σ H cfg) (g : GoodC W K cA wi Ke Po D) : XOk (Wc W cfg) K cA wi (fun x => Po.xc x (cfg.map absS)) σ H := fun x cls d H' hx ⟨e, xd, a, b⟩ w i =>
  g.xc x cls d σ H' cfg (s.mono w i) ⟨e, xd, xd_to (V := Wc W cfg) (fun _ _ m => Or.inl m) a, b⟩ hx
/-- one after the other -/
theorem bdc_seq {st : Stmt} {rest : List Stmt} {env : List Sv} {Po : Po'} (h : B1C F W K cA wi st env { Po with nx := fun e => BdC F W K cA wi rest e Po }) : BdC F W K cA wi (st :: rest) env Po := by
  intro Ke σ H cfg D e s g
  obtain ⟨t, ht, q⟩ := h Ke σ H cfg { D with nx := WS F rest D } e s ⟨fun σ' H' cfg' s' hb => hb Ke σ' H' cfg' D rfl s' g, g.rt, g.bk, g.ct, g.xc⟩
  exact ⟨tSeq t (WS F rest), fun z => pss_cons (ht z) (ws_ps z), q⟩
theorem bdc_nil {env : List Sv} {Po : Po'} (h : Po.nx env) : BdC F W K cA wi [] env Po := fun Ke σ H cfg D e s g => ⟨tNext, fun _ => pss_nil, g.nx σ H cfg s (e ▸ h)⟩
theorem keep_dv {V : Wd} {H0 H : Hp} {v : L2.V} {r : Sv} {B : Sv → Prop} (rv : Rv V K H0 H v r) (h : keepS r B) : ∃ t, cellS t = [] ∧ B (absS t) ∧ Dv V K H (some v) t := by
  cases r with
  | dat d => exact ⟨.dat d, rfl, h, v, rfl, rv⟩
  | own d => exact ⟨.dat d, rfl, h, v, rfl, rv.dn (Or.inr rfl)⟩
  | raw u => exact ⟨.raw u, rfl, h, by rw [show v = u from rv]; rfl⟩
  | any => exact h.elim
theorem okT_ok (b : BCtx P w K mg base N k cA G F sc W wi) {x : Str} (h : okT sc x = true) (i : ι) : Loc (F i).env.scope x ∧ ((F i).fn x = true ∨ (F i).env.scope.names.lookup x = some .local) := by
  unfold okT at h
  rw [Bool.or_eq_true] at h
  rcases h with h | h
  · have e := lcl_of (b.fm.es i) h
    exact ⟨Or.inl e, Or.inr e⟩
  · refine ⟨loc_of (b.fm.es i) ?_, Or.inl (b.cel i x h)⟩
    unfold locB
    unfold celB at h
    rw [h, Bool.or_true]
theorem nocomp_sw {e : Expr} (h : noComp e = true) {t : Option Expr} {l : Nat} {env : Env} : swapsWith e t l env = pure false := by
  cases e <;> first | rfl | exact absurd h Bool.false_ne_true
/-- x = e -/
theorem b1_asg (b : BCtx P w K mg base N k cA G F sc W wi) {x : Str} {px pos : Pos} {e : Expr} {i : Ex} {j : Nat} {env : List Sv} {Po : Po'} (hN : N[j]? = some x) (hs : noComp e = true) (ho : okT sc x = true) (hv : chkV G N 60 sc i e = true) (h : wpE G 60 env (fun x => Po.xc x env) i fun r => keepS r fun s => Po.nx (env.set j s)) :
    B1C F W K cA wi (.Assign [.Name x px] e pos) env Po := by
  intro Ke σ H cfg D he s g
  subst he
  refine ⟨tAsg (WE F e) (gName j), fun z => ps_set (by rw [b.fm.nn z]; exact b.fm.nd) (by rw [b.fm.nn z]; exact hN) (okT_ok b ho z).1 (we_pe z) (nocomp_sw hs) (okT_ok b ho z).2, ?_⟩
  refine (snd_E (N := N) b.g 60).V (s.ctx b) hv h σ H s.inv s.sd _ (fun v H1 r x1 i1 rv hr => ?_) (g.xok s)
  obtain ⟨t, c0, ht, dv⟩ := keep_dv rv hr
  exact g.nx _ _ (cfg.set j t) ((s.mono x1 i1).set j c0 dv) (by rw [List.map_set]; exact ht)
/-- x = e, own -/
theorem b1_asgO (b : BCtx P w K mg base N k cA G F sc W wi) {x : Str} {px pos : Pos} {e : Expr} {i : Ex} {j : Nat} {env : List Sv} {Po : Po'} (hN : N[j]? = some x) (hs : noComp e = true) (ho : okT sc x = true) (hv : chkV G N 60 sc i e = true)
    (h : wpE G 60 env (fun x => Po.xc x env) i fun r => match r with | .own d => j < env.length ∧ Po.nx (env.set j (.own d)) | _ => False) : B1C F W K cA wi (.Assign [.Name x px] e pos) env Po := by
  intro Ke σ H cfg D he s g
  subst he
  refine ⟨tAsg (WE F e) (gName j), fun z => ps_set (by rw [b.fm.nn z]; exact b.fm.nd) (by rw [b.fm.nn z]; exact hN) (okT_ok b ho z).1 (we_pe z) (nocomp_sw hs) (okT_ok b ho z).2, ?_⟩
  refine (snd_E (N := N) b.g 60).V (s.ctx b) hv h σ H s.inv s.sd _ (fun v H1 r x1 i1 rv hr => ?_) (g.xok s)
  cases r with
  | own d =>
    obtain ⟨p, rfl, hp, nM, o, hH, od⟩ := rv
    exact g.nx _ _ (cfg.set j (.od p o d)) (s.fresh j x1 i1 hp hH od (by have := hr.1; rwa [List.length_map] at this)) (by rw [List.map_set]; exact hr.2)
  | _ => exact hr.elim
theorem wpE_lc {G : GI} {n : Nat} {env : List Sv} {X : Exc → Prop} {elt : Ex} {tg : Tgt} {src : Ex} {ifs : List Ex} {R : Sv → Prop} : wpE G (n + 1) env X (.lc elt tg src ifs) R = wpE G n env X src fun r => asS r fun ds => lcW (fun d k => tgW 9 tg d (wipeS env (slotsT 9 tg)) k) (fun e1 k => wpIfs (wpE G n e1 fun _ => False) ifs k) (fun e1 k => wpE G n e1 (fun _ => False) elt fun r => asD r k) ds [] fun es => R (.own (.list es)) := rfl
/-- x = [..] -/
theorem b1_lc (b : BCtx P w K mg base N k cA G F sc W wi) {x : Str} {px cpos pos : Pos} {elt y z : Expr} {us : List Expr} {scope : Scope} {i1 : Ex} {tg : Tgt} {src : Ex} {ifs : List Ex} {j : Nat} {env : List Sv} {Po : Po'} {R : Sv → Prop} (hN : N[j]? = some x) (hl : lclB sc x = true) (hln : (px.line == cpos.line) = true) (hsc : scopeNot x scope = true)
    (hv : (blkC N sc scope (ownOf N (slotsT 9 tg)) && (noSet z && (chkS G N 59 sc (isTupE y) src z && (chkG N (nmB sc scope) 9 tg y && (decide (us.length ≤ 1) && (chkL (chkT G N 59 (relS scope sc)) ifs us && chkV G N 59 (relS scope sc) i1 elt)))))) = true) (h : wpE G 60 env (fun x => Po.xc x env) (.lc i1 tg src ifs) R) (hr : ∀ Ke σ H0 H cfg v D r, cfg.map absS = env → StC W K Ke σ H0 cfg → GoodC W K cA wi Ke Po D → Wx (Wc W cfg) H0 H → (Wc W cfg).I H → Rv (Wc W cfg) K H0 H v r → R r → D.nx (σ.set j (some v)) H) :
    B1C F W K cA wi (.Assign [.Name x px] (.ListComp elt [⟨y, z, us, 0⟩] scope cpos) pos) env Po := by
  intro Ke σ H cfg D he s g
  subst he
  obtain ⟨bk, hset, hsrc, htg, hif, hel⟩ := snd_lc (n := 59) (snd_E (N := N) b.g 59) (s.ctx b) hv
  refine ⟨tAsg (tLc (WI F y z) (WG (FB F scope) y) (WTs (FB F scope) us) (WE (FB F scope) elt) ((ownOf N (slotsT 9 tg)).map (·.2))) (gName j), fun q => ps_setLc (b.fm.ca q) (by rw [b.fm.nn q]; exact b.fm.nd) (by rw [b.fm.nn q]; exact hN) (lcl_of (b.fm.es q) hl) (sw_true (by rw [b.fm.es q]; exact b.fm.kd) (lcl_of (b.fm.es q) hl) hln (by simpa [scopeNot] using hsc)) (wi_pi q) (bk q) (fun s H C cl fp => wg_pg (F := FB F scope) (q, s, H, C, cl, fp)) (fun s H C cl fp => wts_pts (F := FB F scope) (q, s, H, C, cl, fp)) (fun s H C cl fp => we_pe (F := FB F scope) (q, s, H, C, cl, fp)) (fun v => noset_of hset v), ?_⟩
  rw [show (60 : Nat) = 59 + 1 from rfl, wpE_lc] at h
  refine lc_core b.fm ((snd_E (N := N) b.g 59).S (s.ctx b) hsrc id h) bk htg hif hel σ H s.inv s.sd _ (fun v H1 r x1 i1' rv hR => ?_) (g.xok s)
  exact hr Ke σ H H1 cfg v D r rfl s g x1 i1' rv hR
theorem wpE_lc2 {G : GI} {n : Nat} {env : List Sv} {X : Exc → Prop} {elt : Ex} {tg tg1 : Tgt} {src src1 : Ex} {ifs ifs1 : List Ex} {R : Sv → Prop} : wpE G (n + 1) env X (.lc2 elt tg src ifs tg1 src1 ifs1) R = wpE G n env X src fun r => asS r fun ds => lcW2 (fun d k => tgW 9 tg d (wipeS env (slotsT 9 tg ++ slotsT 9 tg1)) k) (fun e1 k => wpIfs (wpE G n e1 fun _ => False) ifs k) (fun e1 k => wpE G n e1 (fun _ => False) src1 fun r => asS r k) (fun e1 d k => tgW 9 tg1 d (wipeS e1 (slotsT 9 tg1)) k)
        (fun e1 k => wpIfs (wpE G n e1 fun _ => False) ifs1 k) (fun e1 k => wpE G n e1 (fun _ => False) elt fun r => asD r k) ds [] fun es => R (.own (.list es)) := rfl
theorem b1_lc2 (b : BCtx P w K mg base N k cA G F sc W wi) {x : Str} {px cpos pos : Pos} {elt y z y1 z1 : Expr} {us us1 : List Expr} {scope : Scope} {i1 : Ex} {tg tg1 : Tgt} {src src1 : Ex} {ifs ifs1 : List Ex} {j : Nat} {env : List Sv} {Po : Po'} {R : Sv → Prop} (hN : N[j]? = some x) (hl : lclB sc x = true) (hln : (px.line == cpos.line) = true) (hsc : scopeNot x scope = true)
    (hv : (blkC N sc scope (ownOf N (slotsT 9 tg ++ slotsT 9 tg1)) && (noSet z && (chkS G N 59 sc (isTupE y) src z && (chkG N (nmB sc scope) 9 tg y && (decide (us.length ≤ 1) && (chkL (chkT G N 59 (relS scope sc)) ifs us && (noSet z1 && (chkS G N 59 (relS scope sc) (isTupE y1) src1 z1 && (chkG N (nmB sc scope) 9 tg1 y1 && (decide (us1.length ≤ 1) && (chkL (chkT G N 59 (relS scope sc)) ifs1 us1 && chkV G N 59 (relS scope sc) i1 elt))))))))))) = true) (h : wpE G 60 env (fun x => Po.xc x env) (.lc2 i1 tg src ifs tg1 src1 ifs1) R) (hr : ∀ Ke σ H0 H cfg v D r, cfg.map absS = env → StC W K Ke σ H0 cfg → GoodC W K cA wi Ke Po D → Wx (Wc W cfg) H0 H → (Wc W cfg).I H → Rv (Wc W cfg) K H0 H v r → R r → D.nx (σ.set j (some v)) H) :
    B1C F W K cA wi (.Assign [.Name x px] (.ListComp elt [⟨y, z, us, 0⟩, ⟨y1, z1, us1, 0⟩] scope cpos) pos) env Po := by
  intro Ke σ H cfg D he s g
  subst he
  obtain ⟨⟨bk, hset, hsrc, hset1⟩, htg, hif, hs1, htg1, hif1, hel⟩ := snd_lc2 (n := 59) (snd_E (N := N) b.g 59) (s.ctx b) hv
  have e : (ownOf N (slotsT 9 tg ++ slotsT 9 tg1)).map (·.2) = slotsT 9 tg ++ slotsT 9 tg1 := own_snd
  refine ⟨tAsg (tLc2 (WI F y z) (WG (FB F scope) y) (WTs (FB F scope) us) (WI (FB F scope) y1 z1) (WG (FB F scope) y1) (WTs (FB F scope) us1) (WE (FB F scope) elt) (slotsT 9 tg ++ slotsT 9 tg1) (slotsT 9 tg1)) (gName j), fun q => ?_, ?_⟩
  · rw [← e]
    exact ps_setLc2 (b.fm.ca q) (by rw [b.fm.nn q]; exact b.fm.nd) (by rw [b.fm.nn q]; exact hN) (lcl_of (b.fm.es q) hl) (sw_true (by rw [b.fm.es q]; exact b.fm.kd) (lcl_of (b.fm.es q) hl) hln (by simpa [scopeNot] using hsc)) (wi_pi q) (bk q) (fun i hi => by rw [e]; exact List.mem_append.mpr (Or.inr hi)) (fun s H C cl fp => wg_pg (F := FB F scope) (q, s, H, C, cl, fp)) (fun s H C cl fp => wts_pts (F := FB F scope) (q, s, H, C, cl, fp)) (fun s H C cl fp => wi_pi (F := FB F scope) (q, s, H, C, cl, fp)) (fun s H C cl fp => wg_pg (F := FB F scope) (q, s, H, C, cl, fp)) (fun s H C cl fp => wts_pts (F := FB F scope) (q, s, H, C, cl, fp)) (fun s H C cl fp => we_pe (F := FB F scope) (q, s, H, C, cl, fp)) (fun v => noset_of hset v) (fun env v => noset_of hset1 v)
  rw [show (60 : Nat) = 59 + 1 from rfl, wpE_lc2] at h
  refine lc_core2 b.fm ((snd_E (N := N) b.g 59).S (s.ctx b) hsrc id h) htg hif hs1 htg1 hif1 hel σ H s.inv s.sd _ (fun v H1 r x1 i1' rv hR => ?_) (g.xok s)
  exact hr Ke σ H H1 cfg v D r rfl s g x1 i1' rv hR
end
end Dr

set_option Elab.async false
set_option linter.all false
set_option maxRecDepth 100000
set_option maxHeartbeats 4000000
namespace Dr
open PySem PySem.Spec PyProof.Rows L2 Cr
section
variable {ι : Type} {F : ι → Cx} {P : Program} {w : World} {K : PySem.W.Frag} {mg : Str → Option Value} {base : Heap} {N : List Str} {k : Nat} {cA : Str → Value} {G : GI} {sc : Scope} {W : Wd} {wi : L2.WX}
/-- (a, ..) = e -/
theorem b1_asgT (b : BCtx P w K mg base N k cA G F sc W wi) {es : List Expr} {k1 : Nat} {p1 pos : Pos} {e : Expr} {i : Ex} {ts : List Tgt} {env : List Sv} {Po : Po'} (hs : noTupE e = true) (hg : chkG N (okT sc) 9 (.tp ts) (.Tuple es k1 p1) = true) (hv : chkV G N 60 sc i e = true)
    (h : wpE G 60 env (fun x => Po.xc x env) i fun r => asD r fun d => tgW 9 (.tp ts) d env Po.nx) : B1C F W K cA wi (.Assign [.Tuple es k1 p1] e pos) env Po := by
  intro Ke σ H cfg D he s g
  subst he
  refine ⟨tAsg (WE F e) (WG F (.Tuple es k1 p1)), fun z => ps_asg (we_pe z) (wg_pg z) (show swapsWith e (some (.Tuple es k1 p1)) pos.line (F z).env = pure false from by cases e <;> rfl) ?_ (by rfl), ?_⟩
  · unfold swappedStores
    cases e <;> first | rfl | exact absurd hs Bool.false_ne_true
  refine (snd_E (N := N) b.g 60).V (s.ctx b) hv h σ H s.inv s.sd _ (fun v H1 r x1 i1 rv hr => ?_) (g.xok s)
  obtain ⟨d, hd, dn⟩ := asD_dn rv hr
  refine snd_tgt (V := Wc W cfg) b.fm (ok := okT sc) (fun x hx z => okT_ok b hx z) (vs := slotsT 9 (.tp ts)) (q := 9) (m := 9) (n := 9) (fun j hj => hj) (Nat.le_refl 9) hg hd v σ H1 i1 (s.sd.mono x1) dn _ fun σ2 cfg2 sd2 c2 _ hb => ?_
  exact g.nx σ2 H1 cfg2 ((s.mono x1 i1).less (c2.apart s.ap) c2.sub sd2) hb
theorem b1_if (b : BCtx P w K mg base N k cA G F sc W wi) {c : Expr} {x y : List Stmt} {pos : Pos} {i : Ex} {env : List Sv} {Po : Po'} {B1 B2 : Prop} (hc : chkT G N 60 sc i c = true) (h1 : B1 → BdC F W K cA wi x env Po) (h2 : B2 → BdC F W K cA wi y env Po)
    (h : wpE G 60 env (fun x => Po.xc x env) i fun r => asB r fun t => if t = true then B1 else B2) : B1C F W K cA wi (.If c x y pos) env Po := by
  intro Ke σ H cfg D he s g
  subst he
  refine ⟨tIfS (WT F c) (WS F x) (WS F y), fun z => ps_if (wt_pt z) (ws_ps z) (ws_ps z), ?_⟩
  refine (snd_E (N := N) b.g 60).T (s.ctx b) hc h σ H s.inv s.sd _ (fun t H1 x1 i1 ht => ?_) (g.xok s)
  cases t with
  | true =>
    rw [if_pos rfl] at ht
    exact h1 ht Ke σ H1 cfg D rfl (s.mono x1 i1) g
  | false =>
    rw [if_neg Bool.false_ne_true] at ht
    exact h2 ht Ke σ H1 cfg D rfl (s.mono x1 i1) g
theorem rv_ret {Ke : Addr → HO → Prop} {σ : L2.St} {H H1 : Hp} {cfg : List Sl} {v : L2.V} {r : Sv} (s : StC W K Ke σ H cfg) (x1 : Wx (Wc W cfg) H H1) (rv : Rv (Wc W cfg) K H H1 v r) : RvK W K Ke H1 v r := by
  have dn : ∀ {d v}, Dn (Wc W cfg) K H1 v d → Dn W K H1 v d := fun h => Dn.to (W := Wc W cfg) (fun _ _ m => Or.inl m) h
  cases r with
  | dat d => exact dn rv
  | own d =>
    obtain ⟨p, e, hp, nM, o, hH, od⟩ := rv
    refine ⟨p, e, fun o' h => ?_, fun m => nM (Or.inl m), o, hH, OD.to (W := (Wc W cfg).opn p) (W' := W.opn p) (fun a _ m => m.imp Or.inl id) od⟩
    rw [(s.ke p o' h).1] at hp
    exact nomatch hp
  | raw u => exact rv
  | any => trivial
theorem b1_ret (b : BCtx P w K mg base N k cA G F sc W wi) {e : Expr} {pos : Pos} {i : Ex} {env : List Sv} {Po : Po'} (hv : chkV G N 60 sc i e = true) (h : wpE G 60 env (fun x => Po.xc x env) i Po.rt) : B1C F W K cA wi (.Return (some e) pos) env Po := by
  intro Ke σ H cfg D he s g
  subst he
  refine ⟨tRet (WE F e), fun z => ps_ret (we_pe z), ?_⟩
  refine (snd_E (N := N) b.g 60).V (s.ctx b) hv h σ H s.inv s.sd _ (fun v H1 r x1 i1 rv hr => ?_) (g.xok s)
  exact g.rt v H1 r i1.1 (fun a o h => ((s.mono x1 i1).ke a o h).1) (rv_ret s x1 rv) hr
theorem b1_retO (b : BCtx P w K mg base N k cA G F sc W wi) {x : Str} {px pos : Pos} {j : Nat} {d : PyData} {env : List Sv} {Po : Po'} (hN : N[j]? = some x) (hv : visB sc x = true) (hn : okName x = true) (he : env[j]? = some (.own d)) (h : Po.rt (.own d)) : B1C F W K cA wi (.Return (some (.Name x px)) pos) env Po := by
  intro Ke σ H cfg D hE s g
  subst hE
  obtain ⟨s0, p, o, hj, hc, hs, od, hp⟩ := own_slot s he
  refine ⟨tRet (tVar j), fun z => ps_ret (pe_var (by rw [b.fm.nn z]; exact hN) (vis_of (b.fm.es z) hv) (okName_of hn).1 (okName_of hn).2), ?_⟩
  refine ⟨.ref p, hs, ?_⟩
  have pc : (p, o) ∈ cellsOf cfg := mem_cells.mpr ⟨j, s0, hj, by rw [hc]; exact List.mem_cons_self⟩
  refine g.rt _ H (.own d) s.inv.1 (fun a o h => (s.ke a o h).1) ⟨p, rfl, fun o' h => (s.ke p o' h).2.2 _ pc rfl, s.out _ pc, o, hp, ?_⟩ h
  refine OD.to (W := Wc W cfg) (W' := W.opn p) (fun a _ m => m.elim Or.inl fun e => ?_) od
  exact Or.inr ⟨(p, o), pc, e.symm⟩
theorem b1_retN {pos : Pos} {env : List Sv} {Po : Po'} (h : Po.rt (.dat .none)) : B1C F W K cA wi (.Return none pos) env Po := fun Ke σ H cfg D he s g => ⟨tRetN, fun z => ps_retN, g.rt .non H (.dat .none) s.inv.1 (fun a o h => (s.ke a o h).1) .non h⟩
theorem b1_brk {pos : Pos} {env : List Sv} {Po : Po'} (h : Po.bk env) : B1C F W K cA wi (.Break pos) env Po := fun Ke σ H cfg D he s g => ⟨tBreak, fun z => ps_break, g.bk σ H cfg s (he ▸ h)⟩
theorem b1_cnt {pos : Pos} {env : List Sv} {Po : Po'} (h : Po.ct env) : B1C F W K cA wi (.Continue pos) env Po := fun Ke σ H cfg D he s g => ⟨tCont, fun z => ps_continue, g.ct σ H cfg s (he ▸ h)⟩
theorem b1_pas {pos : Pos} {env : List Sv} {Po : Po'} (h : Po.nx env) : B1C F W K cA wi (.Pass pos) env Po := fun Ke σ H cfg D he s g => ⟨tNext, fun z => ps_pass, g.nx σ H cfg s (he ▸ h)⟩
theorem b1_exs (b : BCtx P w K mg base N k cA G F sc W wi) {e : Expr} {pos : Pos} {i : Ex} {env : List Sv} {Po : Po'} (hs : noComp e = true) (hv : chkV G N 60 sc i e = true) (h : wpE G 60 env (fun x => Po.xc x env) i fun _ => Po.nx env) : B1C F W K cA wi (.Expr e pos) env Po := by
  intro Ke σ H cfg D he s g
  subst he
  refine ⟨tDrop (WE F e), fun z => ps_expr (we_pe z) (nocomp_sw hs), ?_⟩
  exact (snd_E (N := N) b.g 60).V (s.ctx b) hv h σ H s.inv s.sd _ (fun v H1 r x1 i1 rv hr => g.nx σ H1 cfg (s.mono x1 i1) hr) (g.xok s)
theorem own_list {Ke : Addr → HO → Prop} {σ : L2.St} {H : Hp} {cfg : List Sl} {j : Nat} {ds : List PyData} (s : StC W K Ke σ H cfg) (h : (cfg.map absS)[j]? = some (.own (.list ds))) : ∃ s0 p us, cfg[j]? = some s0 ∧ cellS s0 = [(p, .lst us)] ∧ σ[j]? = some (some (.ref p)) ∧ DnAll (Wc W cfg) K H us ds ∧ H p = some (.lst us) ∧ ∀ H', (Wc W cfg).I H' → H' p = some (.lst us) := by
  obtain ⟨s0, p, o, hj, hc, hs, od, hp⟩ := own_slot s h
  have pc : (p, o) ∈ cellsOf cfg := mem_cells.mpr ⟨j, s0, hj, by rw [hc]; exact List.mem_cons_self⟩
  cases o <;> first | exact od.elim | skip
  exact ⟨s0, p, _, hj, hc, hs, od, hp, fun H' i => i.2 _ pc⟩
theorem own_dict {Ke : Addr → HO → Prop} {σ : L2.St} {H : Hp} {cfg : List Sl} {j : Nat} {ds : List (PyData × PyData)} (s : StC W K Ke σ H cfg) (h : (cfg.map absS)[j]? = some (.own (.dict ds))) : ∃ s0 p us, cfg[j]? = some s0 ∧ cellS s0 = [(p, .dK us)] ∧ σ[j]? = some (some (.ref p)) ∧ DnKv (Wc W cfg) K H us ds ∧ H p = some (.dK us) ∧ ∀ H', (Wc W cfg).I H' → H' p = some (.dK us) := by
  obtain ⟨s0, p, o, hj, hc, hs, od, hp⟩ := own_slot s h
  have pc : (p, o) ∈ cellsOf cfg := mem_cells.mpr ⟨j, s0, hj, by rw [hc]; exact List.mem_cons_self⟩
  cases o <;> first | exact od.elim | skip
  exact ⟨s0, p, _, hj, hc, hs, od, hp, fun H' i => i.2 _ pc⟩
/-- x.append(e) -/
theorem b1_app (b : BCtx P w K mg base N k cA G F sc W wi) {x : Str} {p1 apos pos epos : Pos} {e : Expr} {i : Ex} {j : Nat} {ds : List PyData} {env : List Sv} {Po : Po'} (hN : N[j]? = some x) (hvx : visB sc x = true) (hn : okName x = true) (hl : (apos.endLine == pos.line) = true) (hst : noStar e = true) (hv : chkV G N 60 sc i e = true) (hj : env[j]? = some (.own (.list ds)))
    (h : wpE G 60 env (fun x => Po.xc x env) i fun r => asD r fun d => ds.length < 16777215 ∧ Po.nx (env.set j (.own (.list (ds ++ [d]))))) :
    B1C F W K cA wi (.Expr (.Call (.Attribute (.Name x p1) "append" apos) [e] [] pos) epos) env Po := by
  intro Ke σ H cfg D he s g
  subst he
  refine ⟨tDrop (tBM K "list" rAppend (tVar j) (tCons (WE F e) tNil)), fun z => ps_expr (by have := pe_bm (r := rAppend) PySem.F.plainAttrs_list PySem.F.slot_list_append PySem.F.type_list_append (mt_append (X := F z)) (pe_var (X := F z) (i := j) (pos := p1) (by rw [b.fm.nn z]; exact hN) (vis_of (b.fm.es z) hvx) (okName_of hn).1 (okName_of hn).2) (pa_cons (we_pe (F := F) (e := e) z) pa_nil (star_of hst)) (by rfl) (by rw [star_of hst]; rfl) hl (star_of hst) (by rfl); rwa [b.fm.kk z] at this) (by rfl), ?_⟩
  obtain ⟨s0, p, us, hcj, hc, hs, dn, hp, pin⟩ := own_list s hj
  refine ⟨.ref p, hs, .inl ⟨rfl, us, SqL.of hp⟩, ?_⟩
  refine (snd_E (N := N) b.g 60).V (s.ctx b) hv h σ H s.inv s.sd _ (fun v H1 r x1 i1 rv hr => ?_) (g.xok s)
  obtain ⟨d, ⟨hz, hd⟩, dv⟩ := asD_dn rv hr
  refine ⟨p, us, v, rfl, rfl, pin H1 i1, by rw [dn.length, sizeLine_eq]; omega, ?_⟩
  exact g.nx σ _ _ ((s.mono x1 i1).put (o' := .lst (us ++ [v])) (d' := .list (ds ++ [d])) hcj hc hs ((dn.mono x1).append (.cons dv .nil))) (by rw [List.map_set]; exact hd)
/-- x.extend(e), e another list -/
theorem b1_ext (b : BCtx P w K mg base N k cA G F sc W wi) {x : Str} {p1 apos pos epos : Pos} {e : Expr} {i : Ex} {j : Nat} {ds : List PyData} {env : List Sv} {Po : Po'} (hN : N[j]? = some x) (hvx : visB sc x = true) (hn : okName x = true) (hl : (apos.endLine == pos.line) = true) (hst : noStar e = true) (hv : chkV G N 60 sc i e = true) (hj : env[j]? = some (.own (.list ds)))
    (h : wpE G 60 env (fun x => Po.xc x env) i fun r => asD r fun d => ∃ es, d = .list es ∧ ds.length + es.length ≤ 16777215 ∧ Po.nx (env.set j (.own (.list (ds ++ es))))) :
    B1C F W K cA wi (.Expr (.Call (.Attribute (.Name x p1) "extend" apos) [e] [] pos) epos) env Po := by
  intro Ke σ H cfg D he s g
  subst he
  refine ⟨tDrop (tBM K "list" rExtend (tVar j) (tCons (WE F e) tNil)), fun z => ps_expr (by have := pe_bm (r := rExtend) PySem.F.plainAttrs_list PySem.F.slot_list_extend PySem.F.type_list_extend (mt_extend (X := F z)) (pe_var (X := F z) (i := j) (pos := p1) (by rw [b.fm.nn z]; exact hN) (vis_of (b.fm.es z) hvx) (okName_of hn).1 (okName_of hn).2) (pa_cons (we_pe (F := F) (e := e) z) pa_nil (star_of hst)) (by rfl) (by rw [star_of hst]; rfl) hl (star_of hst) (by rfl); rwa [b.fm.kk z] at this) (by rfl), ?_⟩
  obtain ⟨s0, p, us, hcj, hc, hs, dn, hp, pin⟩ := own_list s hj
  refine ⟨.ref p, hs, .inl ⟨rfl, us, SqL.of hp⟩, ?_⟩
  refine (snd_E (N := N) b.g 60).V (s.ctx b) hv h σ H s.inv s.sd _ (fun v H1 r x1 i1 rv hr => ?_) (g.xok s)
  obtain ⟨d, ⟨es, rfl, hz, hd⟩, dv⟩ := asD_dn rv hr
  cases dv with
  | @lst a xs _ la da =>
    refine ⟨p, a, us, xs, rfl, rfl, pin H1 i1, la.2, by rw [dn.length, da.length, sizeLine_eq]; omega, ?_⟩
    exact g.nx σ _ _ ((s.mono x1 i1).put (o' := .lst (us ++ xs)) (d' := .list (ds ++ es)) hcj hc hs ((dn.mono x1).append da)) (by rw [List.map_set]; exact hd)
theorem all_set {V : Wd} {H : Hp} {v : L2.V} {d : PyData} (dv : Dn V K H v d) : ∀ {us : List L2.V} {ds : List PyData} (m : Nat), DnAll V K H us ds → DnAll V K H (us.set m v) (ds.set m d)
  | _, _, _, .nil => .nil
  | _, _, 0, .cons _ t => .cons dv t
  | _, _, m + 1, .cons h t => .cons h (all_set dv m t)
/-- x[i] = e, x a list -/
theorem b1_setL (b : BCtx P w K mg base N k cA G F sc W wi) {x : Str} {p1 p2 pos : Pos} {bx e : Expr} {ii iv : Ex} {j : Nat} {ds : List PyData} {env : List Sv} {Po : Po'} (hN : N[j]? = some x) (hvx : visB sc x = true) (hn : okName x = true) (hs : noComp e = true) (hsl : noSlice bx = true) (hv : chkV G N 60 sc iv e = true) (hi : chkV G N 60 sc ii bx = true) (hj : env[j]? = some (.own (.list ds)))
    (h : wpE G 60 env (fun x => Po.xc x env) iv fun r => asD r fun d => wpE G 60 env (fun x => Po.xc x env) ii fun r => asI r fun n => ∃ m, ixN ds.length n = some m ∧ Po.nx (env.set j (.own (.list (ds.set m d))))) :
    B1C F W K cA wi (.Assign [.Subscript (.Name x p1) bx p2] e pos) env Po := by
  intro Ke σ H cfg D he s g
  subst he
  refine ⟨tAsg (WE F e) (gSub (tVar j) (WE F bx) rSetL), fun z => ps_asg (we_pe z) (pg_sub (pe_var (by rw [b.fm.nn z]; exact hN) (vis_of (b.fm.es z) hvx) (okName_of hn).1 (okName_of hn).2) (we_pe z) set_list (by cases bx <;> first | exact absurd hsl Bool.false_ne_true | (intro v; rfl))) (show swapsWith e (some (.Subscript (.Name x p1) bx p2)) pos.line (F z).env = pure false from nocomp_sw hs) (by rfl) (by rfl), ?_⟩
  obtain ⟨s0, p, us, hcj, hc, hss, dn, hp, pin⟩ := own_list s hj
  refine (snd_E (N := N) b.g 60).V (s.ctx b) hv h σ H s.inv s.sd _ (fun v H1 r x1 i1 rv hr => ?_) (g.xok s)
  obtain ⟨d, hd, dv⟩ := asD_dn rv hr
  refine ⟨.ref p, hss, ?_⟩
  have s1 := s.mono x1 i1
  refine (snd_E (N := N) b.g 60).V (s1.ctx b) hi hd σ H1 s1.inv s1.sd _ (fun u H2 r2 x2 i2 rv2 hr2 => ?_) (g.xok s1)
  obtain ⟨n, rfl, m, hm, hb⟩ := asI_is hr2
  have rv2 : Dn (Wc W cfg) K H2 u (.int n) := rv2
  cases rv2
  refine ⟨p, us, n, m, rfl, rfl, pin H2 i2, by rw [dn.length]; exact hm, ?_⟩
  exact g.nx σ _ _ ((s1.mono x2 i2).put (o' := .lst (us.set m v)) (d' := .list (ds.set m d)) hcj hc hss (all_set (dv.mono x2) m ((dn.mono x1).mono x2))) (by rw [List.map_set]; exact hb)
theorem b1_setD (b : BCtx P w K mg base N k cA G F sc W wi) {x : Str} {p1 p2 pos : Pos} {bx e : Expr} {ii iv : Ex} {j : Nat} {es : List (PyData × PyData)} {env : List Sv} {Po : Po'} (hN : N[j]? = some x) (hvx : visB sc x = true) (hn : okName x = true) (hs : noComp e = true) (hsl : noSlice bx = true) (hv : chkV G N 60 sc iv e = true) (hi : chkV G N 60 sc ii bx = true) (hj : env[j]? = some (.own (.dict es)))
    (h : wpE G 60 env (fun x => Po.xc x env) iv fun r => asD r fun d => wpE G 60 env (fun x => Po.xc x env) ii fun r => asD r fun y => keyW y fun q => es.length < 16777215 ∧ Po.nx (env.set j (.own (.dict (putD es q d))))) :
    B1C F W K cA wi (.Assign [.Subscript (.Name x p1) bx p2] e pos) env Po := by
  intro Ke σ H cfg D he s g
  subst he
  refine ⟨tAsg (WE F e) (gSub (tVar j) (WE F bx) rSetD), fun z => ps_asg (we_pe z) (pg_sub (pe_var (by rw [b.fm.nn z]; exact hN) (vis_of (b.fm.es z) hvx) (okName_of hn).1 (okName_of hn).2) (we_pe z) (set_dict (by have := (b.fm.ro z).un; omega)) (by cases bx <;> first | exact absurd hsl Bool.false_ne_true | (intro v; rfl))) (show swapsWith e (some (.Subscript (.Name x p1) bx p2)) pos.line (F z).env = pure false from nocomp_sw hs) (by rfl) (by rfl), ?_⟩
  obtain ⟨s0, p, kvs, hcj, hc, hss, dn, hp, pin⟩ := own_dict s hj
  refine (snd_E (N := N) b.g 60).V (s.ctx b) hv h σ H s.inv s.sd _ (fun v H1 r x1 i1 rv hr => ?_) (g.xok s)
  obtain ⟨d, hd, dv⟩ := asD_dn rv hr
  refine ⟨.ref p, hss, ?_⟩
  have s1 := s.mono x1 i1
  refine (snd_E (N := N) b.g 60).V (s1.ctx b) hi hd σ H1 s1.inv s1.sd _ (fun u H2 r2 x2 i2 rv2 hr2 => ?_) (g.xok s1)
  obtain ⟨y, hy, dy⟩ := asD_dn rv2 hr2
  obtain ⟨q, rfl, hl, hb⟩ := key_dn dy hy
  have dk := (dn.mono x1).mono x2
  refine ⟨p, _, rfl, DPut.k (pin H2 i2) (by rw [kv_len dk, sizeLine_eq]; omega), ?_⟩
  exact g.nx σ _ _ ((s1.mono x2 i2).put (o' := .dK (putK kvs q v)) (d' := .dict (putD es q d)) hcj hc hss (kv_put dk (dv.mono x2))) (by rw [List.map_set]; exact hb)
/-- raise X("..") -/
theorem b1_rse0 (b : BCtx P w K mg base N k cA G F sc W wi) {x m : Str} {j : Nat} {p p2 pos pos2 : Pos} {env : List Sv} {Po : Po'} (hx : ExOk P K mg cA x false) (hg : glB sc x = true) (hn : okName x = true) (h : Po.xc ⟨x, []⟩ env) : B1C F W K cA wi (.Raise (some (.Call (.Name x p) [.Constant (.str m) j p2] [] pos)) none pos2) env Po := by
  obtain ⟨C, hC, T⟩ := hx
  rw [if_neg Bool.false_ne_true] at T
  intro Ke σ H cfg D he s g
  subst he
  refine ⟨fun _ σ H => wi (.ref C) none σ H, fun z => ps_raise (b.fm.ca z) (b.tk z) (pmk_own PySem.F.excBase_ValueError (by rw [b.fm.kk z]; exact T.x) (by rw [b.fm.mg z]; exact T.g) (by rw [b.fm.kk z]; exact T.k) (raises_own (by rw [b.fm.kk z]; exact T.b) (by rw [b.fm.kk z]; exact T.t)) (gl_of (b.fm.es z) hg) (okName_of hn).1), ?_⟩
  exact g.xc ⟨x, []⟩ (.ref C) none σ H cfg s ⟨hC.symm, [], trivial, Or.inl ⟨rfl, rfl⟩⟩ h
/-- raise X(n), with a place -/
theorem b1_rse1 (b : BCtx P w K mg base N k cA G F sc W wi) {x : Str} {e : Expr} {i : Ex} {p pos pos2 : Pos} {env : List Sv} {Po : Po'} (hx : ExOk P K mg cA x true) (hg : glB sc x = true) (hn : okName x = true) (hst : noStar e = true) (hv : chkV G N 60 sc i e = true)
    (h : wpE G 60 env (fun x => Po.xc x env) i fun r => asI r fun n => n.natAbs.log2 < 1920 ∧ Po.xc ⟨x, [("place", .int n)]⟩ env) : B1C F W K cA wi (.Raise (some (.Call (.Name x p) [e] [] pos)) none pos2) env Po := by
  obtain ⟨C, hC, T⟩ := hx
  rw [if_pos rfl] at T
  obtain ⟨m, fI, T⟩ := T
  intro Ke σ H cfg D he s g
  subst he
  refine ⟨fun _ σ H => tMkSup C (WA F [e]) σ H fun cls d H' => wi cls d σ H', fun z => ps_raise (b.fm.ca z) (b.tk z) (pmk_sup (xn := x) (m := m) (fI := fI) (k := k) (by rw [b.fm.pr z, b.fm.kk z, b.fm.mg z]; exact T) (b.fm.ro z) (wa_pa z) (gl_of (b.fm.es z) hg) (okName_of hn).1 (star_of hst) (by rfl)), ?_⟩
  refine ⟨tCons (WE F e) tNil, fun z => pa_cons (we_pe z) pa_nil (star_of hst), ?_⟩
  refine (snd_E (N := N) b.g 60).V (s.ctx b) hv h σ H s.inv s.sd _ (fun v H1 r x1 i1 rv hr => ?_) (g.xok s)
  obtain ⟨n, rfl, hl, hb⟩ := asI_is hr
  have rv : Dn (Wc W cfg) K H1 v (.int n) := rv
  cases rv
  refine ⟨n, rfl, hl, fun d hd => ?_⟩
  have s1 := s.mono x1 i1
  obtain ⟨np, xp, ip⟩ := (Wc W cfg).new (o := .xd [(("place" : Str), .int n)]) i1 hd
  have s2 := s1.mono xp ip
  exact g.xc ⟨x, [("place", .int n)]⟩ (.ref C) (some d) σ _ cfg s2 ⟨hC.symm, [("place", .int n)], ⟨rfl, .int n, trivial⟩, Or.inr ⟨d, (fun z => nomatch z), rfl, upd_same⟩⟩ hb
/-- a thing is own no more -/
theorem bdc_frz {ss : List Stmt} {j : Nat} {d : PyData} {env : List Sv} {Po : Po'} (hj : env[j]? = some (.own d)) (h : BdC F W K cA wi ss (env.set j (.dat d)) Po) : BdC F W K cA wi ss env Po := by
  intro Ke σ H cfg D he s g
  subst he
  exact h Ke σ H _ D (by rw [List.map_set]; rfl) (s.freeze hj) g
end
end Dr

set_option Elab.async false
set_option linter.all false
set_option maxRecDepth 100000
set_option maxHeartbeats 4000000
namespace Dr
open PySem PySem.Spec PyProof.Rows L2 Cr
section
variable {ι : Type} {F : ι → Cx} {P : Program} {w : World} {K : PySem.W.Frag} {mg : Str → Option Value} {base : Heap} {N : List Str} {k : Nat} {cA : Str → Value} {G : GI} {sc : Scope} {W : Wd} {wi : L2.WX}
theorem StC.weaken {Ke Ke' : Addr → HO → Prop} {σ : L2.St} {H : Hp} {cfg : List Sl} (s : StC W K Ke' σ H cfg) (h : ∀ a o, Ke a o → Ke' a o) : StC W K Ke σ H cfg := ⟨s.ap, s.out, s.inv, s.sd, fun a o z => s.ke a o (h a o z)⟩
/-- what stands outside the own things stands on -/
def keAll (W : Wd) (cfg : List Sl) (H : Hp) (Ke : Addr → HO → Prop) : Addr → HO → Prop := fun a o => Ke a o ∨ (H a = some o ∧ ¬ (Wc W cfg).M a)
theorem StC.all {Ke : Addr → HO → Prop} {σ : L2.St} {H : Hp} {cfg : List Sl} (s : StC W K Ke σ H cfg) : StC W K (keAll W cfg H Ke) σ H cfg :=
  ⟨s.ap, s.out, s.inv, s.sd, fun a o z => z.elim (s.ke a o) fun ⟨e, n⟩ => ⟨e, fun m => n (Or.inl m), fun c hc ec => n (Or.inr ⟨c, hc, ec⟩)⟩⟩
/-- for target in source -/
theorem b1_for (b : BCtx P w K mg base N k cA G F sc W wi) {y z : Expr} {ss : List Stmt} {pos : Pos} {tg : Tgt} {src : Ex} {env : List Sv} {Po : Po'} {bf : List Sv → Po' → Prop} (hset : noSet z = true) (hsrc : chkS G N 60 sc (isTupE y) src z = true) (htg : chkG N (okT sc) 9 tg y = true)
    (hb : ∀ env Q, bf env Q → BdC F W K cA wi ss env Q) (h : wpE G 60 env (fun x => Po.xc x env) src fun r => asS r fun ds => forW (fun d e k => tgW 9 tg d e k) bf Po ds env) : B1C F W K cA wi (.For y z ss [] pos) env Po := by
  intro Ke σ H cfg D he s g
  subst he
  refine ⟨tFor (WI F y z) (WG F y) (WS F ss), fun q => ps_for (b.pp q) (b.fm.ca q) (wi_pi q) (wg_pg q) (ws_ps q) (fun v => noset_of hset v), ?_⟩
  refine (snd_E (N := N) b.g 60).S (s.ctx b) hsrc id h σ H s.inv s.sd _ (fun J H1 ds x1 i1 itd hw => ?_) (g.xok s)
  have s1 := (s.mono x1 i1).all
  have mv : ∀ {σ' H' cfg'}, StC W K (keAll W cfg H1 Ke) σ' H' cfg' → Mv (Wc W cfg) H1 (Wc W cfg') H' := fun {σ' H' cfg'} s' a o e n => by
    obtain ⟨h1, h2, h3⟩ := s'.ke a o (Or.inr ⟨e, n⟩)
    exact ⟨h1, fun m => m.elim h2 fun ⟨c, hc, ec⟩ => h3 c hc ec⟩
  have gw : GoodC W K cA wi (keAll W cfg H1 Ke) Po D := ⟨fun σ H cfg s q => g.nx σ H cfg (s.weaken fun a o z => Or.inl z) q, fun v H r i ke rv q => g.rt v H r i (fun a o z => ke a o (Or.inl z)) (by
      cases r with
      | own d =>
        obtain ⟨p, e, f, n, o⟩ := rv
        exact ⟨p, e, fun o' z => f o' (Or.inl z), n, o⟩
      | _ => exact rv) q, fun σ H cfg s q => g.bk σ H cfg (s.weaken fun a o z => Or.inl z) q, fun σ H cfg s q => g.ct σ H cfg (s.weaken fun a o z => Or.inl z) q, fun x cls d σ H cfg s i q => g.xc x cls d σ H cfg (s.weaken fun a o z => Or.inl z) i q⟩
  have wk : Walk J ds.length (fun H' => ∃ σ' cfg', StC W K (keAll W cfg H1 Ke) σ' H' cfg') (fun i H' x H2 => ∀ d, ds[i]? = some d → ∀ σ' cfg', StC W K (keAll W cfg H1 Ke) σ' H' cfg' → Xt H' H2 ∧ Dn (Wc W cfg') K H2 x d) :=
    ⟨fun i H' il ⟨σ', cfg', s'⟩ => (itd.go i ds[i] (by simp [il]) _ H' (mv s') s'.inv).1, fun H' ⟨σ', cfg', s'⟩ => itd.stop _ H' (mv s'), fun i H' x H2 il _ y d hd σ' cfg' s' => (itd.go i d hd _ H' (mv s') s'.inv).2 x H2 y⟩
  refine for_it wk (D := D) (fun i σ' H' => ∃ cfg', StC W K (keAll W cfg H1 Ke) σ' H' cfg' ∧ forW (fun d e k => tgW 9 tg d e k) bf Po (ds.drop i) (cfg'.map absS)) ?_ ?_ ?_ ?_
  · exact ⟨cfg, s1, hw⟩
  · rintro i σ' H' _ ⟨cfg', s', _⟩
    exact ⟨σ', cfg', s'⟩
  · rintro i x σ0 H0 H' il ⟨cfg0, s0, hw0⟩ hy
    have hd : ds[i]? = some ds[i] := by simp [il]
    obtain ⟨xt, dx⟩ := hy _ hd σ0 cfg0 s0
    have s2 := s0.mono (xt.wx _) ((Wc W cfg0).mono _ _ s0.inv xt)
    rw [List.drop_eq_getElem_cons il] at hw0
    unfold forW at hw0
    refine snd_tgt (V := Wc W cfg0) b.fm (ok := okT sc) (fun x hx z => okT_ok b hx z) (vs := slotsT 9 tg) (q := 9) (m := 9) (n := 9) (fun j hj => hj) (Nat.le_refl 9) htg hw0 x σ0 H' s2.inv s2.sd dx _ fun σ2 cfg2 sd2 c2 _ hb2 => ?_
    have s3 := s2.less (c2.apart s2.ap) c2.sub sd2
    refine hb _ _ hb2 _ σ2 H' cfg2 _ rfl s3 ⟨?_, gw.rt, ?_, ?_, gw.xc⟩
    · exact fun σ3 H3 cfg3 s4 q => ⟨cfg3, s4, q⟩
    · exact fun σ3 H3 cfg3 s4 q => gw.nx σ3 H3 cfg3 s4 q
    · exact fun σ3 H3 cfg3 s4 q => ⟨cfg3, s4, q⟩
  · rintro σ' H' ⟨cfg', s', hw'⟩
    rw [List.drop_length] at hw'
    exact gw.nx σ' H' cfg' s' hw'
theorem b1_whl (b : BCtx P w K mg base N k cA G F sc W wi) {c : Expr} {ss : List Stmt} {pos : Pos} {i : Ex} {env : List Sv} {Po : Po'} {bf : List Sv → Po' → Prop} (hc : chkT G N 60 sc i c = true)
    (hb : ∀ env Q, bf env Q → BdC F W K cA wi ss env Q) (h : ∃ m, whlW (fun e k => wpE G 60 e (fun x => Po.xc x e) i fun r => asB r k) bf Po m env) : B1C F W K cA wi (.While c ss [] pos) env Po := by
  intro Ke σ H cfg D he s g
  subst he
  obtain ⟨m, h⟩ := h
  refine ⟨tWhile (WT F c) (WS F ss), fun z => ps_while (b.pp z) (wt_pt z) (ws_ps z), ?_⟩
  refine ⟨fun m σ' H' => ∃ cfg', StC W K Ke σ' H' cfg' ∧ whlW (fun e k => wpE G 60 e (fun x => Po.xc x e) i fun r => asB r k) bf Po m (cfg'.map absS), ⟨m, cfg, s, h⟩, ?_⟩
  rintro m σ1 H1 ⟨cfg1, s1, h1⟩
  cases m with
  | zero => exact h1.elim
  | succ m =>
  unfold whlW at h1
  refine (snd_E (N := N) b.g 60).T (s1.ctx b) hc h1 σ1 H1 s1.inv s1.sd _ (fun t H2 x2 i2 ht => ?_) (g.xok s1)
  have s2 := s1.mono x2 i2
  cases t with
  | true =>
    rw [if_pos rfl] at ht
    refine ⟨fun σ' H' => ∃ m', m' < m + 1 ∧ ∃ cfg', StC W K Ke σ' H' cfg' ∧ whlW (fun e k => wpE G 60 e (fun x => Po.xc x e) i fun r => asB r k) bf Po m' (cfg'.map absS), fun σ' H' h => h, ?_⟩
    refine hb _ _ ht Ke σ1 H2 cfg1 _ rfl s2 ⟨?_, g.rt, ?_, ?_, g.xc⟩
    · exact fun σ3 H3 cfg3 s3 q => ⟨m, Nat.lt_succ_self m, cfg3, s3, q⟩
    · exact fun σ3 H3 cfg3 s3 q => g.nx σ3 H3 cfg3 s3 q
    · exact fun σ3 H3 cfg3 s3 q => ⟨m, Nat.lt_succ_self m, cfg3, s3, q⟩
  | false =>
    rw [if_neg Bool.false_ne_true] at ht
    exact g.nx σ1 H2 cfg1 s2 ht
/-- a, b = x, y -/
theorem b1_par (b : BCtx P w K mg base N k cA G F sc W wi) {x y : Str} {px py pt pt2 pos : Pos} {kt k2 : Nat} {e f : Expr} {ia ib : Ex} {i j : Nat} {env : List Sv} {Po : Po'} (hi : N[i]? = some x) (hj : N[j]? = some y) (hij : i ≠ j) (lx : lclB sc x = true) (ly : lclB sc y = true) (hln : (px.line == py.line) = true) (se : noStar e = true) (sf : noStar f = true)
    (n1 : [e, f].all (foldedForSure 8) = false) (n2 : [e, f].all (constantsAlone 8) = false) (ha : chkV G N 60 sc ia e = true) (hb : chkV G N 60 sc ib f = true)
    (h : wpE G 60 env (fun x => Po.xc x env) ia fun r => wpE G 60 env (fun x => Po.xc x env) ib fun q => keepS r fun r => keepS q fun q => Po.nx ((env.set i r).set j q)) :
    B1C F W K cA wi (.Assign [.Tuple [.Name x px, .Name y py] kt pt] (.Tuple [e, f] k2 pt2) pos) env Po := by
  intro Ke σ H cfg D he s g
  subst he
  have xy : x ≠ y := fun e => by
    subst e
    have h1 := List.getElem?_eq_some_iff.mp hi
    have h2 := List.getElem?_eq_some_iff.mp hj
    exact hij ((List.getElem_inj b.fm.nd).mp (h1.2.trans h2.2.symm))
  refine ⟨tPar i j (WA F [e, f]), fun z => ps_par (b.fm.ca z) (by rw [b.fm.nn z]; exact b.fm.nd) (by rw [b.fm.nn z]; exact hi) (by rw [b.fm.nn z]; exact hj) hij (lcl_of (b.fm.es z) lx) (lcl_of (b.fm.es z) ly) (wa_pa z) ?_ (by rfl), ?_⟩
  · have kx : (F z).env.kindOf x = some .local := lcl_of (b.fm.es z) lx
    have ky : (F z).env.kindOf y = some .local := lcl_of (b.fm.es z) ly
    have hk : (F z).env.blockKind = .function := by unfold Env.blockKind; rw [b.fm.es z, b.fm.kd]; rfl
    have q3 : [x, y].eraseDups.length = 2 := by
      rw [List.eraseDups_cons]
      have : (!(y == x)) = true := by simp [Ne.symm xy]
      simp [Ne.symm xy, List.eraseDups_cons]
    have nst : [e, f].any (fun x => match x with | .Starred _ _ => true | _ => false) = false := by
      cases e <;> first | exact absurd se Bool.false_ne_true | skip
      all_goals (cases f <;> first | exact absurd sf Bool.false_ne_true | rfl)
    have ln : py.line == px.line := by rw [beq_iff_eq] at hln ⊢; exact hln.symm
    unfold swappedStores
    simp only [hk, nst, n1, n2, kx, ky]
    simp [kx, ky, ln, xy, Expr.pos, n1, n2, beq_iff_eq.mp ln]
    refine (if_neg ?_).trans ?_
    · rintro (hh | hh)
      · cases e <;> first | exact absurd se Bool.false_ne_true | exact absurd hh Bool.false_ne_true
      · cases f <;> first | exact absurd sf Bool.false_ne_true | exact absurd hh Bool.false_ne_true
    · rw [q3]
      rfl
  refine ⟨tCons (WE F e) (tCons (WE F f) tNil), fun z => pa_cons (we_pe z) (pa_cons (we_pe z) pa_nil (star_of sf)) (star_of se), ?_⟩
  refine (snd_E (N := N) b.g 60).V (s.ctx b) ha h σ H s.inv s.sd _ (fun v H1 r x1 i1 rv hr => ?_) (g.xok s)
  have s1 := s.mono x1 i1
  refine (snd_E (N := N) b.g 60).V (s1.ctx b) hb hr σ H1 s1.inv s1.sd _ (fun u H2 q x2 i2 rv2 hq => ?_) (g.xok s1)
  have s2 := s1.mono x2 i2
  obtain ⟨t, c0, ht, dv⟩ := keep_dv rv hq
  obtain ⟨t2, c2, ht2, dv2⟩ := keep_dv rv2 ht
  refine ⟨v, u, rfl, ?_⟩
  have s3 := s2.set i c0 (dv.mono x2)
  have s4 := s3.set j c2 (Dv.to (W := Wc W cfg) (W' := Wc W (cfg.set i t)) (fun a _ (m : (Wc W (cfg.set i t)).M a) => m.imp id fun ⟨c, hc, e⟩ => ⟨c, cells_set c0 hc, e⟩) dv2)
  exact g.nx _ _ _ s4 (by rw [List.map_set, List.map_set]; exact ht2)
end
end Dr

set_option Elab.async false
set_option linter.all false
set_option maxRecDepth 100000
set_option maxHeartbeats 4000000
namespace Dr
open PySem PySem.Spec PyProof.Rows L2 Cr
section
variable {ι : Type} {F : ι → Cx} {P : Program} {w : World} {K : PySem.W.Frag} {mg : Str → Option Value} {base : Heap} {N : List Str} {k : Nat} {cA : Str → Value} {G : GI} {sc : Scope} {W : Wd} {wi : L2.WX}
theorem bdc_seq' {st : Stmt} {rest : List Stmt} {env : List Sv} {Po : Po'} (I : List Sv → Prop) (h : B1C F W K cA wi st env { Po with nx := I }) (m : ∀ e, I e → BdC F W K cA wi rest e Po) : BdC F W K cA wi (st :: rest) env Po := by
  intro Ke σ H cfg D e s g
  obtain ⟨t, ht, q⟩ := h Ke σ H cfg { D with nx := WS F rest D } e s ⟨fun σ' H' cfg' s' hb => m _ hb Ke σ' H' cfg' D rfl s' g, g.rt, g.bk, g.ct, g.xc⟩
  exact ⟨tSeq t (WS F rest), fun z => pss_cons (ht z) (ws_ps z), q⟩
theorem bdc_seqs {fc : St → Stmt → Bool} {fw : St → List Sv → Po' → Prop} (hf : ∀ s st env Q, fc s st = true → fw s env Q → B1C F W K cA wi st env Q)
    (hz : ∀ j env Q, fw (.frz j) env Q → ∃ d, env[j]? = some (.own d) ∧ Q.nx (env.set j (.dat d))) : ∀ {is : List St} {ss : List Stmt} {env : List Sv} {Q : Po'}, chkSeq fc is ss = true → wpSeq fw is env Q → BdC F W K cA wi ss env Q
  | [], [], env, Q, _, h => bdc_nil h
  | [], _ :: _, _, _, hc, _ => absurd hc Bool.false_ne_true
  | s :: r, ss, env, Q, hc, h => by
    by_cases hs : ∃ j, s = .frz j
    · obtain ⟨j, rfl⟩ := hs
      unfold wpSeq at h
      obtain ⟨d, hd, hq⟩ := hz _ _ _ h
      unfold chkSeq at hc
      exact bdc_frz hd (bdc_seqs hf hz hc hq)
    · have hs' : ∀ j, s ≠ .frz j := fun j e => hs ⟨j, e⟩
      cases ss with
      | nil => cases s <;> first | exact absurd hc Bool.false_ne_true | exact absurd rfl (hs' _)
      | cons st ss =>
        have hc2 : fc s st = true ∧ chkSeq fc r ss = true := by
          cases s <;> first | exact absurd rfl (hs' _) | (unfold chkSeq at hc; rw [Bool.and_eq_true] at hc; exact hc)
        unfold wpSeq at h
        exact bdc_seq' _ (hf s st env _ hc2.1 h) fun e he => bdc_seqs hf hz hc2.2 he
theorem frz_w {n : Nat} {j : Nat} {env : List Sv} {Q : Po'} (h : wp1 G n (.frz j) env Q) : ∃ d, env[j]? = some (.own d) ∧ Q.nx (env.set j (.dat d)) := by
  cases n with
  | zero => exact h.elim
  | succ n =>
    have h : match env[j]? with | some (.own d) => Q.nx (env.set j (.dat d)) | _ => False := h
    split at h
    · exact ⟨_, by assumption, h⟩
    · exact h.elim
theorem snd_1 (b : BCtx P w K mg base N k cA G F sc W wi) : ∀ {m n : Nat} {s : St} {st : Stmt} {env : List Sv} {Q : Po'}, chk1 G N sc m s st = true → wp1 G n s env Q → B1C F W K cA wi st env Q
  | 0, _, _, _, _, _, hc, _ => absurd hc Bool.false_ne_true
  | _ + 1, 0, _, _, _, _, _, h => h.elim
  | m + 1, n + 1, s, st, env, Q, hc, h => by
    have blk : ∀ {is : List St} {ss : List Stmt} (e : List Sv) (R : Po'), chkSeq (chk1 G N sc m) is ss = true → wpSeq (wp1 G n) is e R → BdC F W K cA wi ss e R := fun e R hc h => bdc_seqs (fc := chk1 G N sc m) (fw := wp1 G n) (fun s st env Q hc h => snd_1 b (m := m) (n := n) hc h) (fun j env Q h => frz_w (n := n) h) hc h
    unfold chk1 at hc
    split at hc
    · -- x = [..]
      rename_i j a bb c d x px e y z us scope cpos pos
      simp only [Bool.and_eq_true] at hc
      obtain ⟨hN, hl, hln, hsc, hv⟩ := hc
      refine b1_lc b (beq_iff_eq.mp hN) hl hln hsc (by simpa only [Bool.and_eq_true] using hv) h (R := fun r => keepS r fun s => Q.nx (env.set j s)) fun Ke σ H0 H cfg v D r he s g x1 i1 rv hr => ?_
      subst he
      obtain ⟨t, c0, ht, dv⟩ := keep_dv rv hr
      exact g.nx _ _ (cfg.set j t) ((s.mono x1 i1).set j c0 dv) (by rw [List.map_set]; exact ht)
    · -- x = [..]
      rename_i j a bb c d b1 c1 d1 x px e y z us y1 z1 us1 scope cpos pos
      simp only [Bool.and_eq_true] at hc
      obtain ⟨hN, hl, hln, hsc, hv⟩ := hc
      refine b1_lc2 b (beq_iff_eq.mp hN) hl hln hsc (by simpa only [Bool.and_eq_true] using hv) h (R := fun r => keepS r fun s => Q.nx (env.set j s)) fun Ke σ H0 H cfg v D r he s g x1 i1 rv hr => ?_
      subst he
      obtain ⟨t, c0, ht, dv⟩ := keep_dv rv hr
      exact g.nx _ _ (cfg.set j t) ((s.mono x1 i1).set j c0 dv) (by rw [List.map_set]; exact ht)
    · rename_i j i x px e pos _
      simp only [Bool.and_eq_true] at hc
      exact b1_asg b (beq_iff_eq.mp hc.1) hc.2.1 hc.2.2.1 hc.2.2.2 h
    · rename_i ts i es k1 p1 e pos
      simp only [Bool.and_eq_true] at hc
      exact b1_asgT b hc.1 hc.2.1 hc.2.2 h
    · -- own [..]
      rename_i j a bb c d x px e y z us scope cpos pos
      simp only [Bool.and_eq_true] at hc
      obtain ⟨hN, hl, hln, hsc, hv⟩ := hc
      refine b1_lc b (beq_iff_eq.mp hN) hl hln hsc (by simpa only [Bool.and_eq_true] using hv) h (R := fun r => match r with | .own d => j < env.length ∧ Q.nx (env.set j (.own d)) | _ => False) fun Ke σ H0 H cfg v D r he s g x1 i1 rv hr => ?_
      subst he
      cases r with
      | own d =>
        obtain ⟨p, rfl, hp, nM, o, hH, od⟩ := rv
        exact g.nx _ _ (cfg.set j (.od p o d)) (s.fresh j x1 i1 hp hH od (by have := hr.1; rwa [List.length_map] at this)) (by rw [List.map_set]; exact hr.2)
      | _ => exact hr.elim
    · -- own [..]
      rename_i j a bb c d b1 c1 d1 x px e y z us y1 z1 us1 scope cpos pos
      simp only [Bool.and_eq_true] at hc
      obtain ⟨hN, hl, hln, hsc, hv⟩ := hc
      refine b1_lc2 b (beq_iff_eq.mp hN) hl hln hsc (by simpa only [Bool.and_eq_true] using hv) h (R := fun r => match r with | .own d => j < env.length ∧ Q.nx (env.set j (.own d)) | _ => False) fun Ke σ H0 H cfg v D r he s g x1 i1 rv hr => ?_
      subst he
      cases r with
      | own d =>
        obtain ⟨p, rfl, hp, nM, o, hH, od⟩ := rv
        exact g.nx _ _ (cfg.set j (.od p o d)) (s.fresh j x1 i1 hp hH od (by have := hr.1; rwa [List.length_map] at this)) (by rw [List.map_set]; exact hr.2)
      | _ => exact hr.elim
    · rename_i j i x px e pos _
      simp only [Bool.and_eq_true] at hc
      exact b1_asgO b (beq_iff_eq.mp hc.1) hc.2.1 hc.2.2.1 hc.2.2.2 h
    · -- par
      rename_i i j a c x px y py kt pt e f k2 pt2 pos
      simp only [Bool.and_eq_true, decide_eq_true_eq, Bool.not_eq_true'] at hc
      obtain ⟨h1, h2, h3, h4, h5, h6, h7, h8, h9, h10, h11, h12⟩ := hc
      exact b1_par b (beq_iff_eq.mp h1) (beq_iff_eq.mp h2) h3 h4 h5 h6 h7 h8 h9 h10 h11 h12 h
    · -- append
      rename_i j i x p1 at_ apos e pos epos
      simp only [Bool.and_eq_true] at hc
      obtain ⟨h1, h2, h3, h4, h5, h6, h7⟩ := hc
      cases beq_iff_eq.mp h1
      have h : match env[j]? with | some (.own (.list ds)) => wpE G 60 env (fun x => Q.xc x env) i fun r => asD r fun d => ds.length < 16777215 ∧ Q.nx (env.set j (.own (.list (ds ++ [d])))) | _ => False := h
      split at h
      · rename_i ds he
        exact b1_app b (beq_iff_eq.mp h2) h3 h4 h5 h6 h7 he h
      · exact h.elim
    · -- extend
      rename_i j i x p1 at_ apos e pos epos
      simp only [Bool.and_eq_true] at hc
      obtain ⟨h1, h2, h3, h4, h5, h6, h7⟩ := hc
      cases beq_iff_eq.mp h1
      have h : match env[j]? with | some (.own (.list ds)) => wpE G 60 env (fun x => Q.xc x env) i fun r => asD r fun d => ∃ es, d = .list es ∧ ds.length + es.length ≤ 16777215 ∧ Q.nx (env.set j (.own (.list (ds ++ es)))) | _ => False := h
      split at h
      · rename_i ds he
        exact b1_ext b (beq_iff_eq.mp h2) h3 h4 h5 h6 h7 he h
      · exact h.elim
    · -- setL
      rename_i j i v x p1 bx p2 e pos
      simp only [Bool.and_eq_true] at hc
      obtain ⟨h1, h2, h3, h4, h5, h6, h7⟩ := hc
      have h : match env[j]? with | some (.own (.list ds)) => wpE G 60 env (fun x => Q.xc x env) v fun r => asD r fun d => wpE G 60 env (fun x => Q.xc x env) i fun r => asI r fun n => ∃ m, ixN ds.length n = some m ∧ Q.nx (env.set j (.own (.list (ds.set m d)))) | some (.own (.dict es)) => wpE G 60 env (fun x => Q.xc x env) v fun r => asD r fun d => wpE G 60 env (fun x => Q.xc x env) i fun r => asD r fun y => keyW y fun q => es.length < 16777215 ∧ Q.nx (env.set j (.own (.dict (putD es q d)))) | _ => False := h
      split at h
      · rename_i ds he
        exact b1_setL b (beq_iff_eq.mp h1) h2 h3 h4 h5 h6 h7 he h
      · rename_i es he
        exact b1_setD b (beq_iff_eq.mp h1) h2 h3 h4 h5 h6 h7 he h
      · exact h.elim
    · -- if
      rename_i c x y e xs ys pos
      simp only [Bool.and_eq_true] at hc
      exact b1_if b hc.1 (B1 := wpSeq (wp1 G n) x env Q) (B2 := wpSeq (wp1 G n) y env Q) (fun z => blk env Q hc.2.1 z) (fun z => blk env Q hc.2.2 z) h
    · -- for
      rename_i tg src body y z ss pos
      simp only [Bool.and_eq_true] at hc
      exact b1_for b hc.1 hc.2.1 hc.2.2.1 (bf := fun e Q => wpSeq (wp1 G n) body e Q) (fun e R z => blk e R hc.2.2.2 z) h
    · -- while
      rename_i c body e ss pos
      simp only [Bool.and_eq_true] at hc
      exact b1_whl b hc.1 (bf := fun e Q => wpSeq (wp1 G n) body e Q) (fun e R z => blk e R hc.2 z) h
    · exact b1_ret b hc h
    · -- retO
      rename_i j x px pos
      simp only [Bool.and_eq_true] at hc
      have h : match env[j]? with | some (.own d) => Q.rt (.own d) | _ => False := h
      split at h
      · rename_i d he
        exact b1_retO b (beq_iff_eq.mp hc.1) hc.2.1 hc.2.2 he h
      · exact h.elim
    · exact b1_retN h
    · exact b1_brk h
    · exact b1_cnt h
    · exact b1_pas h
    · rename_i i e pos
      simp only [Bool.and_eq_true] at hc
      exact b1_exs b hc.1 hc.2 h
    · -- raise
      rename_i i x p str j p2 pos pos2
      simp only [Bool.and_eq_true] at hc
      have h : match G.xs[i]? with | some (x, false) => Q.xc ⟨x, []⟩ env | _ => False := h
      cases he : G.xs[i]? with
      | none => rw [he] at h; exact h.elim
      | some c =>
        obtain ⟨y, t⟩ := c
        rw [he] at h hc
        cases t with
        | true => exact h.elim
        | false =>
          have e := beq_iff_eq.mp hc.1
          simp only at e
          subst e
          exact b1_rse0 b (b.g.xs i _ he) hc.2.1 hc.2.2 h
    · rename_i i a x p e pos pos2
      simp only [Bool.and_eq_true] at hc
      have h : match G.xs[i]? with | some (x, true) => wpE G 60 env (fun x => Q.xc x env) a fun r => asI r fun n => n.natAbs.log2 < 1920 ∧ Q.xc ⟨x, [("place", .int n)]⟩ env | _ => False := h
      cases he : G.xs[i]? with
      | none => rw [he] at h; exact h.elim
      | some c =>
        obtain ⟨y, t⟩ := c
        rw [he] at h hc
        cases t with
        | false => exact h.elim
        | true =>
          have e := beq_iff_eq.mp hc.1
          simp only at e
          subst e
          exact b1_rse1 b (b.g.xs i _ he) hc.2.1 hc.2.2.1 hc.2.2.2.1 hc.2.2.2.2 h
    · exact absurd hc Bool.false_ne_true
end
end Dr

set_option Elab.async false
set_option linter.all false
set_option maxRecDepth 100000
set_option maxHeartbeats 4000000
namespace Dr
open PySem PySem.Spec PyProof.Rows L2 Cr
/-! ## a def by its text in the small language -/
def startV (t : Option (Addr × Addr × List Int)) (ds : List PyData) (n : Nat) : List Sv := match t with
  | none => ds.map .dat ++ List.replicate (n - ds.length) .any
  | some p => .raw (.ref p.1) :: (ds.map .dat ++ List.replicate (n - (ds.length + 1)) .any)
def endP (R : Sv → Prop) (X : Exc → Prop) : Po' := { nx := fun _ => R (.dat .none), rt := R, bk := fun _ => False, ct := fun _ => False, xc := fun x _ => X x }
/-- the text's promise -/
def Keeps (G : GI) (n : Nat) (body : List St) (c : Ctr) : Prop := ∀ (t : Option (Addr × Addr × List Int)) ds R X, (c.pot = true → t ≠ none) → (c.pot = false → t = none) → c.ct ds R X → wpSeq (wp1 { G with pot := t } 30) body (startV t ds n) (endP R X)
theorem cells_dat : ∀ ds : List PyData, ∀ n, cellsOf (ds.map Sl.dat ++ List.replicate n Sl.any) = []
  | [], 0 => rfl
  | [], n + 1 => cells_dat [] n
  | d :: ds, n => cells_dat ds n
theorem abs_dat (ds : List PyData) (n : Nat) : (ds.map Sl.dat ++ List.replicate n Sl.any).map absS = ds.map Sv.dat ++ List.replicate n Sv.any := by
  rw [List.map_append, List.map_map, List.map_replicate]
  rfl
section
variable {P : Program} {w : World} {K : PySem.W.Frag} {mg : Str → Option Value} {base : Heap} {k : Nat} {cA : Str → Value} {G : GI} {x qual : Str} {st : Stmt} {f : Addr} {fd : FuncData} {N : List Str} {c : Ctr} {body : List St}
theorem def_ir (Fu : Fun K x qual st f fd) (S : FnScope N c.ps (defScope st)) (hc : ∀ t, chkSeq (chk1 { G with pot := t } N (defScope st) 30) body (defBody st) = true) (g : ∀ t, GOk P w K mg base cA k { G with pot := t }) (hw : Keeps G N.length body c) : FnX P w K mg base (k + 1) f fd c.ps (spC K cA c) := by
  obtain ⟨oc, od, kV, doc, pm, an, cdv, ct, osl, rfl, lk, hcd⟩ := Fu.ex
  refine fnX_of lk hcd S (fun vs H Q E ⟨W, us, ds, R, X, _, _, _, hl, _⟩ => hl) fun A fr s H vs Q E g0 hr ⟨W, us, ds, R, X, hpot, i, dn, hl, hct, q, qx⟩ => ?_
  have fm : Fam P w K mg base N k (defScope st) (DFX P w K mg base N qual (defScope st) f cdv A fr s H E) := ⟨fun _ => rfl, S.kind, fun _ => rfl, fun _ => rfl, fun _ => rfl, fun _ => rfl, fun _ => rfl, fun _ => rfl, S.nd, fun _ => rfl, fun _ => g0, fun _ => hr⟩
  refine ⟨WS (DFX P w K mg base N qual (defScope st) f cdv A fr s H E) (defBody st), ws_ps (F := DFX P w K mg base N qual (defScope st) f cdv A fr s H E) (), ?_⟩
  -- the pot
  have key : ∀ (t : Option (Addr × Addr × List Int)) (cfg : List Sl), (∀ z, t = some z → Draws W z.1 z.2.1 z.2.2) → cellsOf cfg = [] → cfg.map absS = startV t ds N.length → Sd W K H (start N vs) cfg → (c.pot = true → t ≠ none) → (c.pot = false → t = none) → WS (DFX P w K mg base N qual (defScope st) f cdv A fr s H E) (defBody st) { nx := fun _ H' => Q .non H', rt := Q } (start N vs) H := by
    intro t cfg hd hce ha sd h1 h2
    have b : BCtx P w K mg base N k cA { G with pot := t } (DFX P w K mg base N qual (defScope st) f cdv A fr s H E) (defScope st) W (fun cls d _ H => E cls d H) := ⟨fm, fun _ => takes_of rfl rfl rfl rfl, fun _ _ _ => rfl, fun _ => dfx_passes _, hd, g t⟩
    have sW : Sd (Wc W cfg) K H (start N vs) cfg := Sd.to (W := W) (W' := Wc W cfg) (fun a _ m => m.elim id fun ⟨z, hz, _⟩ => by rw [hce] at hz; exact absurd hz List.not_mem_nil) sd
    have none_c : ∀ z ∈ cellsOf cfg, False := fun z hz => by rw [hce] at hz; exact absurd hz List.not_mem_nil
    have st0 : StC W K (fun a o => H a = some o ∧ ¬ W.M a) (start N vs) H cfg := ⟨fun i j s t hi hj _ z hz => (none_c z (mem_cells.mpr ⟨i, s, hi, hz⟩)).elim, fun z hz => (none_c z hz).elim, ⟨i, fun z hz => (none_c z hz).elim⟩, sW, fun a o h => ⟨h.1, h.2, fun z hz => (none_c z hz).elim⟩⟩
    refine bdc_seqs (fc := chk1 { G with pot := t } N (defScope st) 30) (fw := wp1 { G with pot := t } 30) (fun s st env Q hc h => snd_1 b (m := 30) (n := 30) hc h) (fun j env Q h => frz_w (n := 30) h) (hc t) (hw t ds R X h1 h2 hct) _ _ H cfg _ ha st0 ⟨fun σ' H' cfg' s' h => ?_, fun v H' r i' ke rv h => ?_, fun _ _ _ _ h => False.elim h, fun _ _ _ _ h => False.elim h, fun x cls d σ' H' cfg' s' hx h => ?_⟩
    · exact q .non H' (.dat .none) (fun a o n h => (s'.ke a o ⟨h, n⟩).1) s'.inv.1 .non h
    · refine q v H' r (fun a o n h => ke a o ⟨h, n⟩) i' ?_ h
      cases r with
      | own d =>
        obtain ⟨p, e, fr, nM, o⟩ := rv
        refine ⟨p, e, ?_, nM, o⟩
        cases hp : H p with
        | none => rfl
        | some o' => exact absurd ⟨hp, nM⟩ (fr o')
      | _ => exact rv
    · exact qx x cls d H' h hx (fun a o n h => (s'.ke a o ⟨h, n⟩).1) s'.inv.1
  unfold PotArg at hpot
  by_cases hp : c.pot = true
  · rw [if_pos hp] at hpot
    obtain ⟨p, z, ns, rfl, dw⟩ := hpot
    refine key (some (p, z, ns)) (startE N (.raw (.ref p) :: ds.map .dat)) (fun t e => by cases e; exact dw) ?_ ?_ (start_sd ⟨rfl, sd_of_dn dn⟩) (fun _ e => nomatch e) (fun e => by rw [hp] at e; exact nomatch e)
    · exact cells_dat ds _
    · show _ :: (ds.map Sl.dat ++ List.replicate _ Sl.any).map absS = _
      rw [abs_dat]
      simp [startV, absS]
  · rw [if_neg hp] at hpot
    subst hpot
    refine key none (startE N (ds.map .dat)) (fun t e => nomatch e) (cells_dat ds _) ?_ (start_sd (sd_of_dn dn)) (fun e => absurd e hp) (fun _ => rfl)
    show (ds.map Sl.dat ++ List.replicate _ Sl.any).map absS = _
    rw [abs_dat]
    simp [startV]
end
end Dr

set_option Elab.async false
set_option linter.all false
set_option maxRecDepth 100000
set_option maxHeartbeats 4000000
namespace Dr
open PySem PySem.Spec PyProof.Rows L2 Cr
/-! ## contracts from promises of the layer beneath, and the ends -/
def ctF (Fn : List PyData → PyData → Prop) : List PyData → (Sv → Prop) → (Exc → Prop) → Prop := fun ds R _ => ∃ r, Fn ds r ∧ R (.dat r)
def ctD (Pre : List PyData → Prop) (Rn : List PyData → PyData → Prop) : List PyData → (Sv → Prop) → (Exc → Prop) → Prop := fun ds R _ => Pre ds ∧ ∀ r, Rn ds r → R (.dat r)
section
variable {P : Program} {w : World} {K : PySem.W.Frag} {mg : Str → Option Value} {base : Heap} {cA : Str → Value} {x : Str} {j : Nat} {ps : List Str}
/-- from a def that raises nothing -/
theorem fnX_of_G {k : Nat} {f : Addr} {fd : FuncData} {sp : Sp} (F : FnG P w K mg base k f fd ps sp) : FnX P w K mg base k f fd ps sp where
  len := F.len
  run := fun A fr s H args us vs Q E g hr e0 hb hv h => codeAny_mono (F.run A fr s H args us vs Q E g hr e0 hb hv h) fun res s' hq => by
    match res, hq with
    | .ok (.ret u), hq => exact hq
    | .ok .next, hq => exact hq
    | .ok .brk, hq => exact hq
    | .ok .cont, hq => exact hq
    | .error u, hq => exact hq.elim
theorem fnX_weak {k : Nat} {f : Addr} {fd : FuncData} {sp sp' : Sp} (F : FnX P w K mg base k f fd ps sp) (h : ∀ vs H Q E, sp' vs H Q E → sp vs H Q E) : FnX P w K mg base k f fd ps sp' where
  len := fun vs H Q E z => F.len vs H Q E (h vs H Q E z)
  run := fun A fr s H args us vs Q E g hr e0 hb hv z => F.run A fr s H args us vs Q E g hr e0 hb hv (h vs H Q E z)
theorem own_F {Fn : List PyData → PyData → Prop} (o : Own P w K mg base x j ps (spF K Fn)) : OwnC P w K mg base cA x ⟨j, ps, false, ctF Fn⟩ := by
  obtain ⟨f, fd, hm, hk, hb, G⟩ := o.ex
  refine ⟨f, fd, hm, hk, hb, fnX_weak (fnX_of_G G) fun vs H Q E ⟨W, us, ds, R, X, hp, i, dn, hl, hc, q, _⟩ => ?_⟩
  obtain ⟨r, hf, hr⟩ := hc
  have hp : vs = us := hp
  subst hp
  exact ⟨W, ds, r, i, dn, hf, fun v H' xt d => q v H' (.dat r) (xt.wx W) (W.mono _ _ i xt) d hr⟩
theorem own_D {Pre : List PyData → Prop} {Rn : List PyData → PyData → Prop} (o : Own P w K mg base x j ps (spD K Pre Rn)) : OwnC P w K mg base cA x ⟨j, ps, true, ctD Pre Rn⟩ := by
  obtain ⟨f, fd, hm, hk, hb, G⟩ := o.ex
  refine ⟨f, fd, hm, hk, hb, fnX_weak (fnX_of_G G) fun vs H Q E ⟨W, us, ds, R, X, hp, i, dn, hl, hc, q, _⟩ => ?_⟩
  have hp : ∃ p c ns, vs = .ref p :: us ∧ Draws W p c ns := hp
  obtain ⟨p, c, ns, rfl, dw⟩ := hp
  exact ⟨W, p, c, ns, us, ds, rfl, dw, i, dn, hc.1, fun r v H' hr xx ii d => q v H' (.dat r) (fun a o n h => xx a o (fun e => n (e ▸ dw.mp)) h) ii d (hc.2 r hr)⟩
theorem ownC_mk {h : Heap} {st : Stmt} {c : Ctr} (X : K.In h) (G : h.Ns mainGlobals mg) (d : DefF K x st) (hb : BindsB x st c.ps) (ok : ∀ f fd, Fun K x x st f fd → FnX P w K mg base c.lvl f fd c.ps (spC K cA c)) : OwnC P w K mg base cA x c := ⟨ownX_mk X G d hb ok⟩
/-- the law's own body -/
def lawP : Po' := { nx := fun _ => False, rt := fun r => r = .dat (.bool true), bk := fun _ => False, ct := fun _ => False, xc := fun _ _ => False }
theorem fn_lawI {k : Nat} {qual : Str} {st : Stmt} {f : Addr} {fd : FuncData} {N : List Str} {G : GI} {body : List St} {pn fn : Str} {p1 p2 p3 p4 p5 : Pos} {rest : List Stmt} {j : Nat} (Fu : Fun K "law" "law" st f fd) (S : FnScope ("script" :: pn :: N) ["script"] (defScope st)) (hb : defBody st = .Assign [.Name pn p1] (.Call (.Name fn p2) [.Name "script" p3] [] p4) p5 :: rest)
    (o : Own P w K mg base fn j ["script"] (spPot K)) (hj : j ≤ k) (hc : ∀ t, chkSeq (chk1 { G with pot := t } ("script" :: pn :: N) (defScope st) 30) body rest = true) (g : ∀ t, GOk P w K mg base cA k { G with pot := t })
    (hw : ∀ (a p c : Addr) (ms : List Int), wpSeq (wp1 { G with pot := some (p, c, ms) } 30) body (.raw (.ref a) :: .raw (.ref p) :: List.replicate N.length .any) lawP)
    (hn : okName pn = true) (hfn : (fn == ("__debug__" : Str)) = false) (h1 : visB (defScope st) "script" = true) (h2 : locB (defScope st) pn = true) (h3 : glB (defScope st) fn = true) : FnG P w K mg base (k + 1) f fd ["script"] (spLaw K) := by
  refine fn_raw Fu S (fun vs H Q E ⟨a, ns, e, _⟩ => by rw [e]; rfl) fun cdv A fr s H vs Q E g0 hr hsp => ?_
  obtain ⟨a, ns, rfl, hS, hl, q⟩ := hsp
  obtain ⟨fp, fdp, hm, hk, hbn, GG⟩ := o.ex
  have fm : Fam P w K mg base ("script" :: pn :: N) k (defScope st) (DF P w K mg base ("script" :: pn :: N) "law" (defScope st) f cdv A fr s H E) :=
    ⟨fun _ => rfl, S.kind, fun _ => rfl, fun _ => rfl, fun _ => rfl, fun _ => rfl, fun _ => rfl, fun _ => rfl, S.nd, fun _ => rfl, fun _ => g0, fun _ => hr⟩
  refine ⟨tSeq (tAsg (tCall (spPot K) [] E0 (tCons (tVar 0) tNil)) (gName 1)) (WS (DF P w K mg base ("script" :: pn :: N) "law" (defScope st) f cdv A fr s H E) rest), ?_, ?_⟩
  · rw [hb]
    exact pss_cons (ps_set S.nd rfl (loc_of rfl h2) (pe_callG (X := (cxOf CXn P w K mg base ("script" :: pn :: N) "law" (defScope st) f cdv A fr s H E).nox) GG g0 (hr.mono hj) (gl_of rfl h3) hm hk hbn .nil (pa_cons (pe_var (i := 0) rfl (vis_of rfl h1)) pa_nil) E0 hfn) rfl (Or.inl rfl)) (ws_ps (F := DF P w K mg base ("script" :: pn :: N) "law" (defScope st) f cdv A fr s H E) ())
  · refine ⟨.ref a, rfl, a, ns, rfl, hS, hl, fun p c ms H' hp hc' xt pot => ?_⟩
    have b : BCtx P w K mg base ("script" :: pn :: N) k cA { G with pot := some (p, c, ms) } (DF P w K mg base ("script" :: pn :: N) "law" (defScope st) f cdv A fr s H E) (defScope st) (potW p c ms) wi0 := ⟨fm, fun _ => takes0, fun _ _ _ => rfl, fun _ => PassesOwn.never, fun t e => by cases e; exact draws_pot, g _⟩
    have hcc : cellsOf (.raw (.ref a) :: .raw (.ref p) :: List.replicate N.length .any) = [] := cells_dat [] N.length
    have none_c : ∀ z ∈ cellsOf (.raw (.ref a) :: .raw (.ref p) :: List.replicate N.length .any), False := fun z hz => by rw [hcc] at hz; exact absurd hz List.not_mem_nil
    have sd : Sd (potW p c ms) K H' (some (.ref a) :: some (.ref p) :: List.replicate N.length none) (.raw (.ref a) :: .raw (.ref p) :: List.replicate N.length .any) := ⟨rfl, rfl, Sd.nones _⟩
    have st0 : StC (potW p c ms) K (fun _ _ => False) (some (.ref a) :: some (.ref p) :: List.replicate N.length none) H' (.raw (.ref a) :: .raw (.ref p) :: List.replicate N.length .any) := ⟨fun i j s t hi hj _ z hz => (none_c z (mem_cells.mpr ⟨i, s, hi, hz⟩)).elim, fun z hz => (none_c z hz).elim, ⟨pot, fun z hz => (none_c z hz).elim⟩, Sd.to (W := potW p c ms) (W' := Wc (potW p c ms) (.raw (.ref a) :: .raw (.ref p) :: List.replicate N.length .any)) (fun b _ (m : (Wc (potW p c ms) (.raw (.ref a) :: .raw (.ref p) :: List.replicate N.length .any)).M b) => m.elim id fun ⟨z, hz, _⟩ => (none_c z hz).elim) sd, fun a o h => h.elim⟩
    refine bdc_seqs (fc := chk1 { G with pot := some (p, c, ms) } ("script" :: pn :: N) (defScope st) 30) (fw := wp1 { G with pot := some (p, c, ms) } 30) (fun s st env Q hc h => snd_1 b (m := 30) (n := 30) hc h) (fun j env Q h => frz_w (n := 30) h) (hc _) (hw a p c ms) _ _ H' _ _ ?_ st0 ⟨fun _ _ _ _ z => False.elim z, fun v H2 r _ _ rv e => ?_, fun _ _ _ _ z => False.elim z, fun _ _ _ _ z => False.elim z, fun _ _ _ _ _ _ _ _ z => False.elim z⟩
    · show _ :: _ :: (List.replicate _ Sl.any).map absS = _
      rw [List.map_replicate]
      rfl
    · rw [show r = .dat (.bool true) from e] at rv
      have rv : Dn (potW p c ms) K H2 v (.bool true) := rv
      cases rv
      exact q H2
end
end Dr

set_option Elab.async false
set_option linter.all false
set_option maxRecDepth 100000
set_option maxHeartbeats 1000000
namespace Dr
open PySem PySem.Spec PyProof.Rows L2 Cr
/-! ## what the goals ask, loops -/
theorem for_ind {tf : PyData → List Sv → (List Sv → Prop) → Prop} {bf : List Sv → Po' → Prop} {P : Po'} (J : List PyData → List Sv → Prop) (hd : ∀ e, J [] e → P.nx e)
    (hs : ∀ d ds e (N : List Sv → Prop), (∀ e', J ds e' → N e') → J (d :: ds) e → tf d e fun e1 => bf e1 { P with nx := N, ct := N, bk := P.nx }) : ∀ ds e, J ds e → forW tf bf P ds e
  | [], e, h => hd e h
  | d :: ds, e, h => hs d ds e _ (fun e' h' => for_ind J hd hs ds e' h') h
/-- over a range: the turn's number is known -/
theorem for_rng {tf : PyData → List Sv → (List Sv → Prop) → Prop} {bf : List Sv → Po' → Prop} {P : Po'} {n : Nat} {e : List Sv} (J : Nat → List Sv → Prop) (h0 : J 0 e) (hd : ∀ e, J n e → P.nx e)
    (hs : ∀ i e (N : List Sv → Prop), i < n → (∀ e', J (i + 1) e' → N e') → J i e → tf (.int (i : Nat)) e fun e1 => bf e1 { P with nx := N, ct := N, bk := P.nx }) : forW tf bf P ((List.range n).map fun (m : Nat) => .int (m : Int)) e := by
  have key : ∀ m i e, i + m = n → J i e → forW tf bf P ((List.range' i m).map fun (m : Nat) => .int (m : Int)) e := by
    intro m
    induction m with
    | zero =>
      intro i e hi h
      have : i = n := by omega
      subst this
      exact hd e h
    | succ m ih =>
      intro i e hi h
      rw [List.range'_succ, List.map_cons]
      exact hs i e _ (by omega) (fun e' h' => ih (i + 1) e' (by omega) h') h
  rw [List.range_eq_range']
  exact key n 0 e (by omega) h0
theorem lc_map {tf : PyData → (List Sv → Prop) → Prop} {cf : List Sv → (Bool → Prop) → Prop} {ef : List Sv → (PyData → Prop) → Prop} (c : PyData → Bool) (g : PyData → PyData) {k : List PyData → Prop} : ∀ {ds acc : List PyData}, (∀ d ∈ ds, ∀ (C : PyData → Prop) (C' : Prop), (c d = true → C (g d)) → (c d = false → C') → tf d fun e1 => cf e1 fun b => if b = true then ef e1 C else C') →
    acc.length + (ds.filter c).length ≤ 16777215 → k (acc ++ (ds.filter c).map g) → lcW tf cf ef ds acc k
  | [], acc, _, hl, h => ⟨by simpa using hl, by simpa using h⟩
  | d :: ds, acc, hh, hl, h => by
    unfold lcW
    refine hh d List.mem_cons_self _ _ (fun e => ?_) fun e => ?_
    · have hl' : acc.length + ((ds.filter c).length + 1) ≤ 16777215 := by rw [List.filter_cons, if_pos e] at hl; simpa using hl
      refine ⟨by omega, ?_⟩
      refine lc_map c g (fun d m => hh d (List.mem_cons_of_mem _ m)) (by rw [List.length_append, List.length_singleton]; omega) ?_
      rw [List.filter_cons, if_pos e, List.map_cons] at h
      rwa [List.append_assoc]
    · refine lc_map c g (fun d m => hh d (List.mem_cons_of_mem _ m)) (by rw [List.filter_cons, if_neg (by rw [e]; exact Bool.false_ne_true)] at hl; exact hl) ?_
      rw [List.filter_cons, if_neg (by rw [e]; exact Bool.false_ne_true)] at h
      exact h
theorem lc_all {tf : PyData → (List Sv → Prop) → Prop} {cf : List Sv → (Bool → Prop) → Prop} {ef : List Sv → (PyData → Prop) → Prop} (g : PyData → PyData) {k : List PyData → Prop} {ds acc : List PyData} (h : ∀ d ∈ ds, ∀ (C : PyData → Prop) (C' : Prop), C (g d) → tf d fun e1 => cf e1 fun b => if b = true then ef e1 C else C')
    (hl : acc.length + ds.length ≤ 16777215) (hk : k (acc ++ ds.map g)) : lcW tf cf ef ds acc k := by
  have e : ds.filter (fun _ => true) = ds := List.filter_eq_self.mpr fun _ _ => rfl
  exact lc_map (fun _ => true) g (fun d m C C' h1 _ => h d m C C' (h1 rfl)) (by rw [e]; exact hl) (by rw [e]; exact hk)
theorem lc_ints {tf : PyData → (List Sv → Prop) → Prop} {cf : List Sv → (Bool → Prop) → Prop} {ef : List Sv → (PyData → Prop) → Prop} (p : Int → Bool) {k : List PyData → Prop} : ∀ {ns : List Int} {acc : List PyData}, (∀ n ∈ ns, ∀ (C : PyData → Prop) (C' : Prop), (p n = true → C (.int n)) → (p n = false → C') → tf (.int n) fun e1 => cf e1 fun b => if b = true then ef e1 C else C') →
    acc.length + ns.length ≤ 16777215 → k (acc ++ (ns.filter p).map .int) → lcW tf cf ef (ns.map .int) acc k
  | [], acc, _, hl, h => ⟨by simpa using hl, by simpa using h⟩
  | n :: ns, acc, hh, hl, h => by
    rw [List.length_cons] at hl
    rw [List.map_cons]
    unfold lcW
    refine hh n List.mem_cons_self _ _ (fun e => ⟨by omega, ?_⟩) fun e => ?_
    · refine lc_ints p (fun d m => hh d (List.mem_cons_of_mem _ m)) (by rw [List.length_append, List.length_singleton]; omega) ?_
      rw [List.filter_cons, if_pos e, List.map_cons] at h
      rwa [List.append_assoc]
    · refine lc_ints p (fun d m => hh d (List.mem_cons_of_mem _ m)) (by omega) ?_
      rw [List.filter_cons, if_neg (by rw [e]; exact Bool.false_ne_true)] at h
      exact h
/-- one whose items are only known by a relation -/
inductive Each (R : PyData → PyData → Prop) : List PyData → List PyData → Prop where
  | nil : Each R [] []
  | cons {d x ds xs} : R d x → Each R ds xs → Each R (d :: ds) (x :: xs)
theorem lc_rel {tf : PyData → (List Sv → Prop) → Prop} {cf : List Sv → (Bool → Prop) → Prop} {ef : List Sv → (PyData → Prop) → Prop} (R : PyData → PyData → Prop) {k : List PyData → Prop} : ∀ {ds acc : List PyData}, (∀ d ∈ ds, ∀ (C : PyData → Prop) (C' : Prop), (∀ x, R d x → C x) → tf d fun e1 => cf e1 fun b => if b = true then ef e1 C else C') →
    acc.length + ds.length ≤ 16777215 → (∀ xs, Each R ds xs → k (acc ++ xs)) → lcW tf cf ef ds acc k
  | [], acc, _, hl, h => ⟨by simpa using hl, by have := h [] .nil; rwa [List.append_nil] at this⟩
  | d :: ds, acc, hh, hl, h => by
    have hl' : acc.length + (ds.length + 1) ≤ 16777215 := by simpa using hl
    unfold lcW
    refine hh d List.mem_cons_self _ _ fun x hx => ⟨by omega, ?_⟩
    refine lc_rel R (fun d m => hh d (List.mem_cons_of_mem _ m)) (by rw [List.length_append]; simp; omega) fun xs e => ?_
    rw [List.append_assoc]
    exact h (x :: xs) (.cons hx e)
theorem Each.len {R : PyData → PyData → Prop} : ∀ {ds xs}, Each R ds xs → xs.length = ds.length
  | _, _, .nil => rfl
  | _, _, .cons _ t => by rw [List.length_cons, List.length_cons, t.len]
theorem Each.all {R : PyData → PyData → Prop} {Q : PyData → Prop} (h : ∀ d x, R d x → Q x) : ∀ {ds xs}, Each R ds xs → ∀ x ∈ xs, Q x
  | _, _, .nil => fun _ m => absurd m List.not_mem_nil
  | _, _, .cons a t => fun x m => by
    rcases List.mem_cons.mp m with e | m
    · rw [e]
      exact h _ _ a
    · exact Each.all h t x m
/-- two clauses, both plain -/
theorem lc2_map {tf : PyData → (List Sv → Prop) → Prop} {cf : List Sv → (Bool → Prop) → Prop} {sf : List Sv → (List PyData → Prop) → Prop} {tf1 : List Sv → PyData → (List Sv → Prop) → Prop} {cf1 : List Sv → (Bool → Prop) → Prop} {ef : List Sv → (PyData → Prop) → Prop} (g : PyData → List PyData) {k : List PyData → Prop} : ∀ {ds acc : List PyData},
    (∀ d ∈ ds, ∀ (acc : List PyData) (C : List PyData → Prop) (C' : Prop), C (acc ++ g d) → acc.length + (g d).length ≤ 16777215 → tf d fun e1 => cf e1 fun b => if b = true then sf e1 fun ds1 => lcW (tf1 e1) cf1 ef ds1 acc C else C') →
    acc.length + (ds.flatMap g).length ≤ 16777215 → k (acc ++ ds.flatMap g) → lcW2 tf cf sf tf1 cf1 ef ds acc k
  | [], acc, _, hl, h => ⟨by simpa using hl, by simpa using h⟩
  | d :: ds, acc, hh, hl, h => by
    rw [List.flatMap_cons, List.length_append] at hl
    unfold lcW2
    refine hh d List.mem_cons_self acc _ _ ?_ (by omega)
    refine lc2_map g (fun d m => hh d (List.mem_cons_of_mem _ m)) (by rw [List.length_append]; omega) ?_
    rw [List.flatMap_cons] at h
    rwa [List.append_assoc]
theorem eqv_int {i j : Int} : PyData.eqv (.int i) (.int j) = decide (i = j) := by
  by_cases e : i = j <;> simp [PyData.eqv, e]
theorem eqv_str {i j : Str} : PyData.eqv (.str i) (.str j) = decide (i = j) := by
  by_cases e : i = j <;> simp [PyData.eqv, e]
theorem cmpW_eq {x y : PyData} {k : Bool → Prop} (h : EqOk x y) (hk : k (PyData.eqv x y)) : cmpW .Eq x y k := by
  cases x <;> cases y <;> first | exact ⟨h, hk⟩ | (rw [eqv_int] at hk; exact hk) | (rw [eqv_str] at hk; exact hk)
theorem cmpW_ne {x y : PyData} {k : Bool → Prop} (h : NeOk x y) (hk : k (!PyData.eqv x y)) : cmpW .NotEq x y k := by
  cases x <;> cases y <;> first | exact ⟨h, hk⟩ | (rw [eqv_int] at hk; exact hk) | (rw [eqv_str] at hk; exact hk)
theorem cmpW_nice {x y : PyData} {k : Bool → Prop} (hx : Nice x 20) (hy : Nice y 20) (hk : k (PyData.eqv x y)) : cmpW .Eq x y k := cmpW_eq (Or.inl (Or.inr ⟨hx, hy⟩)) hk
theorem cmpW_nn {x y : PyData} {k : Bool → Prop} (hx : Nice x 20) (hy : Nice y 20) (hk : k (!PyData.eqv x y)) : cmpW .NotEq x y k := cmpW_ne (Or.inr ⟨hx, hy⟩) hk
theorem cmpW_isN {x : PyData} {k : Bool → Prop} (hk : k (isNone x)) : cmpW .Is x .none k := by
  cases x <;> exact hk
theorem cmpW_notN {x : PyData} {k : Bool → Prop} (hk : k (!isNone x)) : cmpW .IsNot x .none k := by
  cases x <;> exact hk
theorem log2_small {i : Nat} (h : i < 1000000) : ((i : Int).natAbs).log2 < 1920 := by
  show i.log2 < 1920
  by_cases e : i = 0
  · subst e
    decide
  · exact (Nat.log2_lt e).mpr (Nat.lt_of_lt_of_le h (Nat.le_trans (by decide : 1000000 ≤ 2 ^ 20) (Nat.pow_le_pow_right (by decide) (by decide))))
/-- a strictly rising list is known by what is in it -/
theorem rise_eq : ∀ {a b : List Int}, a.Pairwise (· < ·) → b.Pairwise (· < ·) → (∀ k, k ∈ a ↔ k ∈ b) → a = b
  | [], [], _, _, _ => rfl
  | [], y :: b, _, _, h => absurd ((h y).mpr List.mem_cons_self) List.not_mem_nil
  | x :: a, [], _, _, h => absurd ((h x).mp List.mem_cons_self) List.not_mem_nil
  | x :: a, y :: b, ha, hb, h => by
    rw [List.pairwise_cons] at ha hb
    have e : x = y := by
      rcases List.mem_cons.mp ((h x).mp List.mem_cons_self) with e | m
      · exact e
      · rcases List.mem_cons.mp ((h y).mpr List.mem_cons_self) with e | m'
        · exact e.symm
        · have h1 := hb.1 x m
          have h2 := ha.1 y m'
          omega
    subst e
    congr 1
    refine rise_eq ha.2 hb.2 fun k => ⟨fun m => ?_, fun m => ?_⟩
    · rcases List.mem_cons.mp ((h k).mp (List.mem_cons_of_mem _ m)) with e | m'
      · have := ha.1 k m
        omega
      · exact m'
    · rcases List.mem_cons.mp ((h k).mpr (List.mem_cons_of_mem _ m)) with e | m'
      · have := hb.1 k m
        omega
      · exact m'
/-! the goals, step by step -/
theorem w_asD_d {d : PyData} {k : PyData → Prop} : asD (.dat d) k = k d := rfl
theorem w_asD_o {d : PyData} {k : PyData → Prop} : asD (.own d) k = k d := rfl
theorem w_asB_b {b : Bool} {k : Bool → Prop} : asB (.dat (.bool b)) k = k b := rfl
theorem w_asI_i {b : Int} {k : Int → Prop} : asI (.dat (.int b)) k = k b := rfl
theorem w_asS_l {ds : List PyData} {k : List PyData → Prop} : asS (.dat (.list ds)) k = k ds := rfl
theorem w_asS_t {ds : List PyData} {k : List PyData → Prop} : asS (.dat (.tuple ds)) k = k ds := rfl
theorem w_asS_o {ds : List PyData} {k : List PyData → Prop} : asS (.own (.list ds)) k = k ds := rfl
theorem w_keep_d {d : PyData} {k : Sv → Prop} : keepS (.dat d) k = k (.dat d) := rfl
theorem w_keep_o {d : PyData} {k : Sv → Prop} : keepS (.own d) k = k (.dat d) := rfl
theorem w_keep_r {v : L2.V} {k : Sv → Prop} : keepS (.raw v) k = k (.raw v) := rfl
theorem w_seq_nil {f : St → List Sv → Po' → Prop} {env : List Sv} {P : Po'} : wpSeq f [] env P = P.nx env := rfl
theorem w_seq_cons {f : St → List Sv → Po' → Prop} {s : St} {r : List St} {env : List Sv} {P : Po'} : wpSeq f (s :: r) env P = f s env { P with nx := fun e => wpSeq f r e P } := rfl
theorem w_c_lt {i j : Int} {k : Bool → Prop} : cmpW .Lt (.int i) (.int j) k = k (decide (i < j)) := rfl
theorem w_c_le {i j : Int} {k : Bool → Prop} : cmpW .LtE (.int i) (.int j) k = k (decide (i ≤ j)) := rfl
theorem w_c_gt {i j : Int} {k : Bool → Prop} : cmpW .Gt (.int i) (.int j) k = k (decide (j < i)) := rfl
theorem w_c_ge {i j : Int} {k : Bool → Prop} : cmpW .GtE (.int i) (.int j) k = k (decide (j ≤ i)) := rfl
theorem w_c_eqI {i j : Int} {k : Bool → Prop} : cmpW .Eq (.int i) (.int j) k = k (decide (i = j)) := rfl
theorem w_c_neI {i j : Int} {k : Bool → Prop} : cmpW .NotEq (.int i) (.int j) k = k (!decide (i = j)) := rfl
theorem w_c_eqS {i j : Str} {k : Bool → Prop} : cmpW .Eq (.str i) (.str j) k = k (decide (i = j)) := rfl
theorem w_c_neS {i j : Str} {k : Bool → Prop} : cmpW .NotEq (.str i) (.str j) k = k (!decide (i = j)) := rfl
theorem w_c_isB {i j : Bool} {k : Bool → Prop} : cmpW .Is (.bool i) (.bool j) k = k (decide (i = j)) := rfl
theorem w_c_isnB {i j : Bool} {k : Bool → Prop} : cmpW .IsNot (.bool i) (.bool j) k = k (!decide (i = j)) := rfl
theorem w_c_is {x : PyData} {k : Bool → Prop} : cmpW .Is x .none k = k (isNone x) := by cases x <;> rfl
theorem w_c_isn {x : PyData} {k : Bool → Prop} : cmpW .IsNot x .none k = k (!isNone x) := by cases x <;> rfl
theorem w_o_add {i j : Int} {k : PyData → Prop} : binW .Add (.int i) (.int j) k = k (.int (i + j)) := rfl
theorem w_o_sub {i j : Int} {k : PyData → Prop} : binW .Sub (.int i) (.int j) k = k (.int (i - j)) := rfl
theorem w_o_cat {a b : List PyData} {k : PyData → Prop} : binW .Add (.list a) (.list b) k = (a.length + b.length ≤ 16777216 ∧ k (.list (a ++ b))) := rfl
theorem w_o_catT {a b : List PyData} {k : PyData → Prop} : binW .Add (.tuple a) (.tuple b) k = (a.length + b.length ≤ 16777216 ∧ k (.tuple (a ++ b))) := rfl
theorem w_o_mul {i j : Int} {k : PyData → Prop} : binW .Mult (.int i) (.int j) k = (CMul i j ∧ k (.int (i * j))) := rfl
theorem w_o_mod {i j : Int} {k : PyData → Prop} : binW .Mod (.int i) (.int j) k = (0 < j ∧ k (.int (i % j))) := rfl
theorem w_o_div {i j : Int} {k : PyData → Prop} : binW .FloorDiv (.int i) (.int j) k = (CDivW i j ∧ k (.int (i / j))) := rfl
theorem w_o_pow {i j : Int} {k : PyData → Prop} : binW .Pow (.int i) (.int j) k = (CPow i j ∧ k (.int (i ^ j.toNat))) := rfl
theorem w_x_list {ds : List PyData} {i : Int} {k : PyData → Prop} : idxW (.list ds) (.int i) k = ∃ d, atI ds i = some d ∧ k d := rfl
theorem w_x_tup {ds : List PyData} {i : Int} {k : PyData → Prop} : idxW (.tuple ds) (.int i) k = ∃ d, atI ds i = some d ∧ k d := rfl
theorem w_u_list {ds : List PyData} {l h : Option Int} {k : PyData → Prop} : cutW (.list ds) l h k = k (.list (cutD ds l h)) := rfl
theorem w_u_tup {ds : List PyData} {l h : Option Int} {k : PyData → Prop} : cutW (.tuple ds) l h k = k (.tuple (cutD ds l h)) := rfl
theorem w_f_lenL {ds : List PyData} {k : PyData → Prop} : biW .len [.list ds] k = k (.int (ds.length : Int)) := rfl
theorem w_f_lenT {ds : List PyData} {k : PyData → Prop} : biW .len [.tuple ds] k = k (.int (ds.length : Int)) := rfl
theorem w_f_max {i j : Int} {k : PyData → Prop} : biW .max [.int i, .int j] k = k (.int (if j > i then j else i)) := rfl
theorem w_f_min {i j : Int} {k : PyData → Prop} : biW .min [.int i, .int j] k = k (.int (if j < i then j else i)) := rfl
theorem w_f_int {i : Int} {k : PyData → Prop} : biW .int [.int i] k = k (.int i) := rfl
theorem w_f_intB {b : Bool} {k : PyData → Prop} : biW .int [.bool b] k = k (.int (if b then 1 else 0)) := rfl
theorem w_f_repr {d : PyData} {k : PyData → Prop} : biW .repr [d] k = (ShowsO d ∧ k (.str d.shown)) := rfl
theorem w_f_tup {ds : List PyData} {k : PyData → Prop} : biW .tuple [.list ds] k = k (.tuple ds) := rfl
theorem w_f_list {ds : List PyData} {k : PyData → Prop} : biW .list [.list ds] k = k (.list ds) := rfl
theorem w_f_listT {ds : List PyData} {k : PyData → Prop} : biW .list [.tuple ds] k = k (.list ds) := rfl
theorem w_f_all {bs : List Bool} {k : PyData → Prop} (h : k (.bool (bs.all id))) : biW .all [.list (bs.map .bool)] k := ⟨bs, rfl, h⟩
theorem w_f_any {bs : List Bool} {k : PyData → Prop} (h : k (.bool (bs.any id))) : biW .any [.list (bs.map .bool)] k := ⟨bs, rfl, h⟩
theorem w_z_list {a b : List PyData} {k : List PyData → Prop} : zipW (.list a) (.list b) k = k (zipL a b) := rfl
theorem w_z_tup {a b : List PyData} {k : List PyData → Prop} : zipW (.tuple a) (.tuple b) k = k (zipL a b) := rfl
end Dr

set_option Elab.async false
set_option linter.all false
set_option maxRecDepth 100000
set_option maxHeartbeats 1000000
namespace Dr
open PySem PySem.Spec PyProof.Rows L2 Cr
/-! what each part of a text asks, one by one -/
def varW (o : Option Sv) (R : Sv → Prop) : Prop := match o with
  | some (.dat d) => R (.dat d)
  | some (.raw v) => R (.raw v)
  | _ => False
theorem vw_d {d : PyData} {R : Sv → Prop} : varW (some (.dat d)) R = R (.dat d) := rfl
theorem vw_r {v : L2.V} {R : Sv → Prop} : varW (some (.raw v)) R = R (.raw v) := rfl
section
variable {G : GI} {n : Nat} {env : List Sv} {X : Exc → Prop} {R : Sv → Prop} {P : Po'}
theorem we_cst : ∀ c, wpE G (n + 1) env X (.cst c) R = (R (.dat c)) := fun c => rfl
theorem we_var : ∀ j, wpE G (n + 1) env X (.var j) R = varW env[j]? R := fun j => rfl
theorem we_glb : ∀ i, wpE G (n + 1) env X (.glb i) R = (match G.cs[i]? with
      | some c => R (.dat c.2)
      | none => False) := fun i => rfl
theorem we_tup : ∀ es, wpE G (n + 1) env X (.tup es) R = (wpL (wpE G n env X) es fun ds => R (.dat (.tuple ds))) := fun es => rfl
theorem we_lst : ∀ es, wpE G (n + 1) env X (.lst es) R = (wpL (wpE G n env X) es fun ds => R (.own (.list ds))) := fun es => rfl
theorem we_dct0 : wpE G (n + 1) env X (.dct0) R = (R (.own (.dict []))) := rfl
theorem we_bin : ∀ op a b, wpE G (n + 1) env X (.bin op a b) R = (wpE G n env X a fun r => asD r fun x => wpE G n env X b fun r => asD r fun y => binW op x y fun z => R (.dat z)) := fun op a b => rfl
theorem we_cmp : ∀ op a b, wpE G (n + 1) env X (.cmp op a b) R = (wpE G n env X a fun r => asD r fun x => wpE G n env X b fun r => asD r fun y => cmpW op x y fun z => R (.dat (.bool z))) := fun op a b => rfl
theorem we_neg : ∀ a, wpE G (n + 1) env X (.neg a) R = (wpE G n env X a fun r => asI r fun i => R (.dat (.int (-i)))) := fun a => rfl
theorem we_not : ∀ a, wpE G (n + 1) env X (.not a) R = (wpE G n env X a fun r => asB r fun b => R (.dat (.bool (!b)))) := fun a => rfl
theorem we_and : ∀ es, wpE G (n + 1) env X (.and es) R = (wpAnd (wpE G n env X) es fun b => R (.dat (.bool b))) := fun es => rfl
theorem we_or : ∀ es, wpE G (n + 1) env X (.or es) R = (wpOr (wpE G n env X) es fun b => R (.dat (.bool b))) := fun es => rfl
theorem we_tru : ∀ a, wpE G (n + 1) env X (.tru a) R = (wpE G n env X a fun r => asD r fun d => truW d fun b => R (.dat (.bool b))) := fun a => rfl
theorem we_ifx : ∀ c a b, wpE G (n + 1) env X (.ifx c a b) R = (wpE G n env X c fun r => asB r fun t => if t = true then wpE G n env X a R else wpE G n env X b R) := fun c a b => rfl
theorem we_idx : ∀ a b, wpE G (n + 1) env X (.idx a b) R = (wpE G n env X a fun r => asD r fun x => wpE G n env X b fun r => asD r fun y => idxW x y fun z => R (.dat z)) := fun a b => rfl
theorem we_cut : ∀ a lo hi, wpE G (n + 1) env X (.cut a lo hi) R = (wpE G n env X a fun r => asD r fun x => wpO (wpE G n env X) lo fun l => wpO (wpE G n env X) hi fun h => cutW x l h fun z => R (.dat z)) := fun a lo hi => rfl
theorem we_bi : ∀ f es, wpE G (n + 1) env X (.bi f es) R = (wpL (wpE G n env X) es fun ds => biW f ds fun z => R (.dat z)) := fun f es => rfl
theorem we_isi : ∀ a ts, wpE G (n + 1) env X (.isi a ts) R = (wpE G n env X a fun r => asD r fun d => R (.dat (.bool (ts.any fun T => isaD T d)))) := fun a ts => rfl
theorem we_fn : ∀ i es, wpE G (n + 1) env X (.fn i es) R = (match G.fns[i]? with
      | some c => wpL (wpE G n env X) es fun ds => c.2.ct ds R X
      | none => False) := fun i es => rfl
theorem we_fnP : ∀ i j es, wpE G (n + 1) env X (.fnP i j es) R = (match G.fns[i]?, G.pot with
      | some c, some p => env[j]? = some (.raw (.ref p.1)) ∧ wpL (wpE G n env X) es fun ds => c.2.ct ds R X
      | _, _ => False) := fun i j es => rfl
theorem we_lc : ∀ elt tg src ifs, wpE G (n + 1) env X (.lc elt tg src ifs) R = (wpE G n env X src fun r => asS r fun ds => lcW (fun d k => tgW 9 tg d (wipeS env (slotsT 9 tg)) k) (fun e1 k => wpIfs (wpE G n e1 fun _ => False) ifs k) (fun e1 k => wpE G n e1 (fun _ => False) elt fun r => asD r k) ds [] fun es => R (.own (.list es))) := fun elt tg src ifs => rfl
theorem we_lc2 : ∀ elt tg src ifs tg1 src1 ifs1, wpE G (n + 1) env X (.lc2 elt tg src ifs tg1 src1 ifs1) R = (wpE G n env X src fun r => asS r fun ds => lcW2 (fun d k => tgW 9 tg d (wipeS env (slotsT 9 tg ++ slotsT 9 tg1)) k) (fun e1 k => wpIfs (wpE G n e1 fun _ => False) ifs k) (fun e1 k => wpE G n e1 (fun _ => False) src1 fun r => asS r k) (fun e1 d k => tgW 9 tg1 d (wipeS e1 (slotsT 9 tg1)) k)
        (fun e1 k => wpIfs (wpE G n e1 fun _ => False) ifs1 k) (fun e1 k => wpE G n e1 (fun _ => False) elt fun r => asD r k) ds [] fun es => R (.own (.list es))) := fun elt tg src ifs tg1 src1 ifs1 => rfl
theorem we_rng : ∀ a, wpE G (n + 1) env X (.rng a) R = (wpE G n env X a fun r => asI r fun i => (-1000000 ≤ i ∧ i ≤ 1000000) ∧ R (.dat (.list ((List.range i.toNat).map fun (m : Nat) => .int (m : Int))))) := fun a => rfl
theorem we_enu : ∀ a, wpE G (n + 1) env X (.enu a) R = (wpE G n env X a fun r => asD r fun d => ∃ ds, d = .list ds ∧ R (.dat (.list (enuL ds)))) := fun a => rfl
theorem we_viewT : ∀ a, wpE G (n + 1) env X (.viewT a) R = (wpE G n (env.map thaw) (fun _ => False) a fun r => asB r fun b => R (.dat (.bool b))) := fun a => rfl
theorem we_zip : ∀ a b, wpE G (n + 1) env X (.zip a b) R = (wpE G n env X a fun r => asD r fun x => wpE G n env X b fun r => asD r fun y => zipW x y fun zs => R (.dat (.list zs))) := fun a b => rfl
theorem we_view : ∀ a, wpE G (n + 1) env X (.view a) R = (wpE G n (env.map thaw) (fun _ => False) a fun r => asD r fun d => flatD d = true ∧ R (.dat d)) := fun a => rfl
theorem we_idxO : ∀ j b, wpE G (n + 1) env X (.idxO j b) R = (match env[j]? with
      | some (.own (.list ds)) => wpE G n env X b fun r => asI r fun i => ∃ d, atI ds i = some d ∧ R (.dat d)
      | _ => False) := fun j b => rfl
theorem we_cmp2 : ∀ o1 o2 a b c, wpE G (n + 1) env X (.cmp2 o1 o2 a b c) R = (wpE G n env X a fun r => asD r fun x => wpE G n env X b fun r => asD r fun y => cmpW o1 x y fun t => if t = true then wpE G n env X c fun r => asD r fun z => cmpW o2 y z fun u => R (.dat (.bool u)) else R (.dat (.bool false))) := fun o1 o2 a b c => rfl
theorem we_sset : ∀ a, wpE G (n + 1) env X (.sset a) R = (wpE G n env X a fun r => asD r fun d => ssetW d fun z => R (.own z)) := fun a => rfl
theorem we_dget : ∀ a b, wpE G (n + 1) env X (.dget a b) R = (wpE G n env X a fun r => asD r fun x => wpE G n env X b fun r => asD r fun y => ∃ es, x = .dict es ∧ keyW y fun q => ∃ d, lookK es q = some d ∧ R (.dat d)) := fun a b => rfl
theorem we_get2 : ∀ a b c, wpE G (n + 1) env X (.get2 a b c) R = (wpE G n env X a fun r => asD r fun x => ∃ es, x = .dict es ∧ wpE G n env X b fun r => asD r fun y => wpE G n env X c fun r => asD r fun z => keyN y fun q => R (.dat ((q.bind (lookK es)).getD z))) := fun a b c => rfl
theorem we_enuT : ∀ a, wpE G (n + 1) env X (.enuT a) R = (wpE G n env X a fun r => asD r fun d => ∃ ds, d = .tuple ds ∧ R (.dat (.list (enuL ds)))) := fun a => rfl
theorem ws_asgN : ∀ j e, wp1 G (n + 1) (.asg (.nm j) e) env P = (wpE G 60 env (fun x => P.xc x env) e fun r => keepS r fun s => P.nx (env.set j s)) := fun j e => rfl
theorem ws_asgT : ∀ ts e, wp1 G (n + 1) (.asg (.tp ts) e) env P = (wpE G 60 env (fun x => P.xc x env) e fun r => asD r fun d => tgW 9 (.tp ts) d env P.nx) := fun ts e => rfl
theorem ws_asgO : ∀ j e, wp1 G (n + 1) (.asgO j e) env P = (wpE G 60 env (fun x => P.xc x env) e fun r => match r with
      | .own d => j < env.length ∧ P.nx (env.set j (.own d))
      | _ => False) := fun j e => rfl
theorem ws_par : ∀ i j a b, wp1 G (n + 1) (.par i j a b) env P = (wpE G 60 env (fun x => P.xc x env) a fun r => wpE G 60 env (fun x => P.xc x env) b fun q => keepS r fun r => keepS q fun q => P.nx ((env.set i r).set j q)) := fun i j a b => rfl
theorem ws_app : ∀ j e, wp1 G (n + 1) (.app j e) env P = (match env[j]? with
      | some (.own (.list ds)) => wpE G 60 env (fun x => P.xc x env) e fun r => asD r fun d => ds.length < 16777215 ∧ P.nx (env.set j (.own (.list (ds ++ [d]))))
      | _ => False) := fun j e => rfl
theorem ws_ext : ∀ j e, wp1 G (n + 1) (.ext j e) env P = (match env[j]? with
      | some (.own (.list ds)) => wpE G 60 env (fun x => P.xc x env) e fun r => asD r fun d => ∃ es, d = .list es ∧ ds.length + es.length ≤ 16777215 ∧ P.nx (env.set j (.own (.list (ds ++ es))))
      | _ => False) := fun j e => rfl
theorem ws_setL : ∀ j i e, wp1 G (n + 1) (.setL j i e) env P = (match env[j]? with
      | some (.own (.list ds)) => wpE G 60 env (fun x => P.xc x env) e fun r => asD r fun d => wpE G 60 env (fun x => P.xc x env) i fun r => asI r fun n => ∃ m, ixN ds.length n = some m ∧ P.nx (env.set j (.own (.list (ds.set m d))))
      | some (.own (.dict es)) => wpE G 60 env (fun x => P.xc x env) e fun r => asD r fun d => wpE G 60 env (fun x => P.xc x env) i fun r => asD r fun y => keyW y fun q => es.length < 16777215 ∧ P.nx (env.set j (.own (.dict (putD es q d))))
      | _ => False) := fun j i e => rfl
theorem ws_ifs : ∀ c a b, wp1 G (n + 1) (.ifs c a b) env P = (wpE G 60 env (fun x => P.xc x env) c fun r => asB r fun t => if t = true then wpSeq (wp1 G n) a env P else wpSeq (wp1 G n) b env P) := fun c a b => rfl
theorem ws_for_ : ∀ tg src body, wp1 G (n + 1) (.for_ tg src body) env P = (wpE G 60 env (fun x => P.xc x env) src fun r => asS r fun ds => forW (fun d e k => tgW 9 tg d e k) (fun e Q => wpSeq (wp1 G n) body e Q) P ds env) := fun tg src body => rfl
theorem ws_whl : ∀ c body, wp1 G (n + 1) (.whl c body) env P = (∃ m, whlW (fun e k => wpE G 60 e (fun x => P.xc x e) c fun r => asB r k) (fun e Q => wpSeq (wp1 G n) body e Q) P m env) := fun c body => rfl
theorem ws_ret : ∀ e, wp1 G (n + 1) (.ret e) env P = (wpE G 60 env (fun x => P.xc x env) e P.rt) := fun e => rfl
theorem ws_retO : ∀ j, wp1 G (n + 1) (.retO j) env P = (match env[j]? with
      | some (.own d) => P.rt (.own d)
      | _ => False) := fun j => rfl
theorem ws_retN : wp1 G (n + 1) (.retN) env P = (P.rt (.dat .none)) := rfl
theorem ws_brk : wp1 G (n + 1) (.brk) env P = (P.bk env) := rfl
theorem ws_cnt : wp1 G (n + 1) (.cnt) env P = (P.ct env) := rfl
theorem ws_pas : wp1 G (n + 1) (.pas) env P = (P.nx env) := rfl
theorem ws_exs : ∀ e, wp1 G (n + 1) (.exs e) env P = (wpE G 60 env (fun x => P.xc x env) e fun _ => P.nx env) := fun e => rfl
theorem ws_rse0 : ∀ i, wp1 G (n + 1) (.rse0 i) env P = (match G.xs[i]? with
      | some (x, false) => P.xc ⟨x, []⟩ env
      | _ => False) := fun i => rfl
theorem ws_rse1 : ∀ i a, wp1 G (n + 1) (.rse1 i a) env P = (match G.xs[i]? with
      | some (x, true) => wpE G 60 env (fun x => P.xc x env) a fun r => asI r fun n => n.natAbs.log2 < 1920 ∧ P.xc ⟨x, [("place", .int n)]⟩ env
      | _ => False) := fun i a => rfl
theorem ws_frz : ∀ j, wp1 G (n + 1) (.frz j) env P = (match env[j]? with
      | some (.own d) => P.nx (env.set j (.dat d))
      | _ => False) := fun j => rfl
end
end Dr

set_option Elab.async false
set_option linter.all false
set_option maxRecDepth 100000
set_option maxHeartbeats 1000000
namespace Dr
open PySem PySem.Spec PyProof.Rows L2 Cr
/-! the same steps, as equations that are kept in the proof: for long texts -/
theorem w_asD_d' {d : PyData} {k : PyData → Prop} : asD (.dat d) k = k d := Eq.trans rfl rfl
theorem w_asD_o' {d : PyData} {k : PyData → Prop} : asD (.own d) k = k d := Eq.trans rfl rfl
theorem w_asB_b' {b : Bool} {k : Bool → Prop} : asB (.dat (.bool b)) k = k b := Eq.trans rfl rfl
theorem w_asI_i' {b : Int} {k : Int → Prop} : asI (.dat (.int b)) k = k b := Eq.trans rfl rfl
theorem w_asS_l' {ds : List PyData} {k : List PyData → Prop} : asS (.dat (.list ds)) k = k ds := Eq.trans rfl rfl
theorem w_asS_t' {ds : List PyData} {k : List PyData → Prop} : asS (.dat (.tuple ds)) k = k ds := Eq.trans rfl rfl
theorem w_asS_o' {ds : List PyData} {k : List PyData → Prop} : asS (.own (.list ds)) k = k ds := Eq.trans rfl rfl
theorem w_keep_d' {d : PyData} {k : Sv → Prop} : keepS (.dat d) k = k (.dat d) := Eq.trans rfl rfl
theorem w_keep_o' {d : PyData} {k : Sv → Prop} : keepS (.own d) k = k (.dat d) := Eq.trans rfl rfl
theorem w_keep_r' {v : L2.V} {k : Sv → Prop} : keepS (.raw v) k = k (.raw v) := Eq.trans rfl rfl
theorem w_seq_nil' {f : St → List Sv → Po' → Prop} {env : List Sv} {P : Po'} : wpSeq f [] env P = P.nx env := Eq.trans rfl rfl
theorem w_seq_cons' {f : St → List Sv → Po' → Prop} {s : St} {r : List St} {env : List Sv} {P : Po'} : wpSeq f (s :: r) env P = f s env { P with nx := fun e => wpSeq f r e P } := Eq.trans rfl rfl
theorem w_c_lt' {i j : Int} {k : Bool → Prop} : cmpW .Lt (.int i) (.int j) k = k (decide (i < j)) := Eq.trans rfl rfl
theorem w_c_le' {i j : Int} {k : Bool → Prop} : cmpW .LtE (.int i) (.int j) k = k (decide (i ≤ j)) := Eq.trans rfl rfl
theorem w_c_gt' {i j : Int} {k : Bool → Prop} : cmpW .Gt (.int i) (.int j) k = k (decide (j < i)) := Eq.trans rfl rfl
theorem w_c_ge' {i j : Int} {k : Bool → Prop} : cmpW .GtE (.int i) (.int j) k = k (decide (j ≤ i)) := Eq.trans rfl rfl
theorem w_c_eqI' {i j : Int} {k : Bool → Prop} : cmpW .Eq (.int i) (.int j) k = k (decide (i = j)) := Eq.trans rfl rfl
theorem w_c_neI' {i j : Int} {k : Bool → Prop} : cmpW .NotEq (.int i) (.int j) k = k (!decide (i = j)) := Eq.trans rfl rfl
theorem w_c_eqS' {i j : Str} {k : Bool → Prop} : cmpW .Eq (.str i) (.str j) k = k (decide (i = j)) := Eq.trans rfl rfl
theorem w_c_neS' {i j : Str} {k : Bool → Prop} : cmpW .NotEq (.str i) (.str j) k = k (!decide (i = j)) := Eq.trans rfl rfl
theorem w_c_isB' {i j : Bool} {k : Bool → Prop} : cmpW .Is (.bool i) (.bool j) k = k (decide (i = j)) := Eq.trans rfl rfl
theorem w_c_isnB' {i j : Bool} {k : Bool → Prop} : cmpW .IsNot (.bool i) (.bool j) k = k (!decide (i = j)) := Eq.trans rfl rfl
theorem w_o_add' {i j : Int} {k : PyData → Prop} : binW .Add (.int i) (.int j) k = k (.int (i + j)) := Eq.trans rfl rfl
theorem w_o_sub' {i j : Int} {k : PyData → Prop} : binW .Sub (.int i) (.int j) k = k (.int (i - j)) := Eq.trans rfl rfl
theorem w_o_cat' {a b : List PyData} {k : PyData → Prop} : binW .Add (.list a) (.list b) k = (a.length + b.length ≤ 16777216 ∧ k (.list (a ++ b))) := Eq.trans rfl rfl
theorem w_o_catT' {a b : List PyData} {k : PyData → Prop} : binW .Add (.tuple a) (.tuple b) k = (a.length + b.length ≤ 16777216 ∧ k (.tuple (a ++ b))) := Eq.trans rfl rfl
theorem w_o_mul' {i j : Int} {k : PyData → Prop} : binW .Mult (.int i) (.int j) k = (CMul i j ∧ k (.int (i * j))) := Eq.trans rfl rfl
theorem w_o_mod' {i j : Int} {k : PyData → Prop} : binW .Mod (.int i) (.int j) k = (0 < j ∧ k (.int (i % j))) := Eq.trans rfl rfl
theorem w_o_div' {i j : Int} {k : PyData → Prop} : binW .FloorDiv (.int i) (.int j) k = (CDivW i j ∧ k (.int (i / j))) := Eq.trans rfl rfl
theorem w_o_pow' {i j : Int} {k : PyData → Prop} : binW .Pow (.int i) (.int j) k = (CPow i j ∧ k (.int (i ^ j.toNat))) := Eq.trans rfl rfl
theorem w_x_list' {ds : List PyData} {i : Int} {k : PyData → Prop} : idxW (.list ds) (.int i) k = ∃ d, atI ds i = some d ∧ k d := Eq.trans rfl rfl
theorem w_x_tup' {ds : List PyData} {i : Int} {k : PyData → Prop} : idxW (.tuple ds) (.int i) k = ∃ d, atI ds i = some d ∧ k d := Eq.trans rfl rfl
theorem w_u_list' {ds : List PyData} {l h : Option Int} {k : PyData → Prop} : cutW (.list ds) l h k = k (.list (cutD ds l h)) := Eq.trans rfl rfl
theorem w_u_tup' {ds : List PyData} {l h : Option Int} {k : PyData → Prop} : cutW (.tuple ds) l h k = k (.tuple (cutD ds l h)) := Eq.trans rfl rfl
theorem w_f_lenL' {ds : List PyData} {k : PyData → Prop} : biW .len [.list ds] k = k (.int (ds.length : Int)) := Eq.trans rfl rfl
theorem w_f_lenT' {ds : List PyData} {k : PyData → Prop} : biW .len [.tuple ds] k = k (.int (ds.length : Int)) := Eq.trans rfl rfl
theorem w_f_max' {i j : Int} {k : PyData → Prop} : biW .max [.int i, .int j] k = k (.int (if j > i then j else i)) := Eq.trans rfl rfl
theorem w_f_min' {i j : Int} {k : PyData → Prop} : biW .min [.int i, .int j] k = k (.int (if j < i then j else i)) := Eq.trans rfl rfl
theorem w_f_int' {i : Int} {k : PyData → Prop} : biW .int [.int i] k = k (.int i) := Eq.trans rfl rfl
theorem w_f_intB' {b : Bool} {k : PyData → Prop} : biW .int [.bool b] k = k (.int (if b then 1 else 0)) := Eq.trans rfl rfl
theorem w_f_repr' {d : PyData} {k : PyData → Prop} : biW .repr [d] k = (ShowsO d ∧ k (.str d.shown)) := Eq.trans rfl rfl
theorem w_f_tup' {ds : List PyData} {k : PyData → Prop} : biW .tuple [.list ds] k = k (.tuple ds) := Eq.trans rfl rfl
theorem w_f_list' {ds : List PyData} {k : PyData → Prop} : biW .list [.list ds] k = k (.list ds) := Eq.trans rfl rfl
theorem w_f_listT' {ds : List PyData} {k : PyData → Prop} : biW .list [.tuple ds] k = k (.list ds) := Eq.trans rfl rfl
theorem w_z_list' {a b : List PyData} {k : List PyData → Prop} : zipW (.list a) (.list b) k = k (zipL a b) := Eq.trans rfl rfl
theorem w_z_tup' {a b : List PyData} {k : List PyData → Prop} : zipW (.tuple a) (.tuple b) k = k (zipL a b) := Eq.trans rfl rfl
theorem vw_d' {d : PyData} {R : Sv → Prop} : varW (some (.dat d)) R = R (.dat d) := Eq.trans rfl rfl
theorem vw_r' {v : L2.V} {R : Sv → Prop} : varW (some (.raw v)) R = R (.raw v) := Eq.trans rfl rfl
section
variable {G : GI} {n : Nat} {env : List Sv} {X : Exc → Prop} {R : Sv → Prop} {P : Po'}
theorem we_cst' : ∀ c, wpE G (n + 1) env X (.cst c) R = (R (.dat c)) := fun c => Eq.trans rfl rfl
theorem we_var' : ∀ j, wpE G (n + 1) env X (.var j) R = varW env[j]? R := fun j => Eq.trans rfl rfl
theorem we_glb' : ∀ i, wpE G (n + 1) env X (.glb i) R = (match G.cs[i]? with
      | some c => R (.dat c.2)
      | none => False) := fun i => Eq.trans rfl rfl
theorem we_tup' : ∀ es, wpE G (n + 1) env X (.tup es) R = (wpL (wpE G n env X) es fun ds => R (.dat (.tuple ds))) := fun es => Eq.trans rfl rfl
theorem we_lst' : ∀ es, wpE G (n + 1) env X (.lst es) R = (wpL (wpE G n env X) es fun ds => R (.own (.list ds))) := fun es => Eq.trans rfl rfl
theorem we_dct0' : wpE G (n + 1) env X (.dct0) R = (R (.own (.dict []))) := Eq.trans rfl rfl
theorem we_bin' : ∀ op a b, wpE G (n + 1) env X (.bin op a b) R = (wpE G n env X a fun r => asD r fun x => wpE G n env X b fun r => asD r fun y => binW op x y fun z => R (.dat z)) := fun op a b => Eq.trans rfl rfl
theorem we_cmp' : ∀ op a b, wpE G (n + 1) env X (.cmp op a b) R = (wpE G n env X a fun r => asD r fun x => wpE G n env X b fun r => asD r fun y => cmpW op x y fun z => R (.dat (.bool z))) := fun op a b => Eq.trans rfl rfl
theorem we_neg' : ∀ a, wpE G (n + 1) env X (.neg a) R = (wpE G n env X a fun r => asI r fun i => R (.dat (.int (-i)))) := fun a => Eq.trans rfl rfl
theorem we_not' : ∀ a, wpE G (n + 1) env X (.not a) R = (wpE G n env X a fun r => asB r fun b => R (.dat (.bool (!b)))) := fun a => Eq.trans rfl rfl
theorem we_and' : ∀ es, wpE G (n + 1) env X (.and es) R = (wpAnd (wpE G n env X) es fun b => R (.dat (.bool b))) := fun es => Eq.trans rfl rfl
theorem we_or' : ∀ es, wpE G (n + 1) env X (.or es) R = (wpOr (wpE G n env X) es fun b => R (.dat (.bool b))) := fun es => Eq.trans rfl rfl
theorem we_tru' : ∀ a, wpE G (n + 1) env X (.tru a) R = (wpE G n env X a fun r => asD r fun d => truW d fun b => R (.dat (.bool b))) := fun a => Eq.trans rfl rfl
theorem we_ifx' : ∀ c a b, wpE G (n + 1) env X (.ifx c a b) R = (wpE G n env X c fun r => asB r fun t => if t = true then wpE G n env X a R else wpE G n env X b R) := fun c a b => Eq.trans rfl rfl
theorem we_idx' : ∀ a b, wpE G (n + 1) env X (.idx a b) R = (wpE G n env X a fun r => asD r fun x => wpE G n env X b fun r => asD r fun y => idxW x y fun z => R (.dat z)) := fun a b => Eq.trans rfl rfl
theorem we_cut' : ∀ a lo hi, wpE G (n + 1) env X (.cut a lo hi) R = (wpE G n env X a fun r => asD r fun x => wpO (wpE G n env X) lo fun l => wpO (wpE G n env X) hi fun h => cutW x l h fun z => R (.dat z)) := fun a lo hi => Eq.trans rfl rfl
theorem we_bi' : ∀ f es, wpE G (n + 1) env X (.bi f es) R = (wpL (wpE G n env X) es fun ds => biW f ds fun z => R (.dat z)) := fun f es => Eq.trans rfl rfl
theorem we_isi' : ∀ a ts, wpE G (n + 1) env X (.isi a ts) R = (wpE G n env X a fun r => asD r fun d => R (.dat (.bool (ts.any fun T => isaD T d)))) := fun a ts => Eq.trans rfl rfl
theorem we_fn' : ∀ i es, wpE G (n + 1) env X (.fn i es) R = (match G.fns[i]? with
      | some c => wpL (wpE G n env X) es fun ds => c.2.ct ds R X
      | none => False) := fun i es => Eq.trans rfl rfl
theorem we_fnP' : ∀ i j es, wpE G (n + 1) env X (.fnP i j es) R = (match G.fns[i]?, G.pot with
      | some c, some p => env[j]? = some (.raw (.ref p.1)) ∧ wpL (wpE G n env X) es fun ds => c.2.ct ds R X
      | _, _ => False) := fun i j es => Eq.trans rfl rfl
theorem we_lc' : ∀ elt tg src ifs, wpE G (n + 1) env X (.lc elt tg src ifs) R = (wpE G n env X src fun r => asS r fun ds => lcW (fun d k => tgW 9 tg d (wipeS env (slotsT 9 tg)) k) (fun e1 k => wpIfs (wpE G n e1 fun _ => False) ifs k) (fun e1 k => wpE G n e1 (fun _ => False) elt fun r => asD r k) ds [] fun es => R (.own (.list es))) := fun elt tg src ifs => Eq.trans rfl rfl
theorem we_lc2' : ∀ elt tg src ifs tg1 src1 ifs1, wpE G (n + 1) env X (.lc2 elt tg src ifs tg1 src1 ifs1) R = (wpE G n env X src fun r => asS r fun ds => lcW2 (fun d k => tgW 9 tg d (wipeS env (slotsT 9 tg ++ slotsT 9 tg1)) k) (fun e1 k => wpIfs (wpE G n e1 fun _ => False) ifs k) (fun e1 k => wpE G n e1 (fun _ => False) src1 fun r => asS r k) (fun e1 d k => tgW 9 tg1 d (wipeS e1 (slotsT 9 tg1)) k)
        (fun e1 k => wpIfs (wpE G n e1 fun _ => False) ifs1 k) (fun e1 k => wpE G n e1 (fun _ => False) elt fun r => asD r k) ds [] fun es => R (.own (.list es))) := fun elt tg src ifs tg1 src1 ifs1 => Eq.trans rfl rfl
theorem we_rng' : ∀ a, wpE G (n + 1) env X (.rng a) R = (wpE G n env X a fun r => asI r fun i => (-1000000 ≤ i ∧ i ≤ 1000000) ∧ R (.dat (.list ((List.range i.toNat).map fun (m : Nat) => .int (m : Int))))) := fun a => Eq.trans rfl rfl
theorem we_enu' : ∀ a, wpE G (n + 1) env X (.enu a) R = (wpE G n env X a fun r => asD r fun d => ∃ ds, d = .list ds ∧ R (.dat (.list (enuL ds)))) := fun a => Eq.trans rfl rfl
theorem we_viewT' : ∀ a, wpE G (n + 1) env X (.viewT a) R = (wpE G n (env.map thaw) (fun _ => False) a fun r => asB r fun b => R (.dat (.bool b))) := fun a => Eq.trans rfl rfl
theorem we_zip' : ∀ a b, wpE G (n + 1) env X (.zip a b) R = (wpE G n env X a fun r => asD r fun x => wpE G n env X b fun r => asD r fun y => zipW x y fun zs => R (.dat (.list zs))) := fun a b => Eq.trans rfl rfl
theorem we_view' : ∀ a, wpE G (n + 1) env X (.view a) R = (wpE G n (env.map thaw) (fun _ => False) a fun r => asD r fun d => flatD d = true ∧ R (.dat d)) := fun a => Eq.trans rfl rfl
theorem we_idxO' : ∀ j b, wpE G (n + 1) env X (.idxO j b) R = (match env[j]? with
      | some (.own (.list ds)) => wpE G n env X b fun r => asI r fun i => ∃ d, atI ds i = some d ∧ R (.dat d)
      | _ => False) := fun j b => Eq.trans rfl rfl
theorem we_cmp2' : ∀ o1 o2 a b c, wpE G (n + 1) env X (.cmp2 o1 o2 a b c) R = (wpE G n env X a fun r => asD r fun x => wpE G n env X b fun r => asD r fun y => cmpW o1 x y fun t => if t = true then wpE G n env X c fun r => asD r fun z => cmpW o2 y z fun u => R (.dat (.bool u)) else R (.dat (.bool false))) := fun o1 o2 a b c => Eq.trans rfl rfl
theorem we_sset' : ∀ a, wpE G (n + 1) env X (.sset a) R = (wpE G n env X a fun r => asD r fun d => ssetW d fun z => R (.own z)) := fun a => Eq.trans rfl rfl
theorem we_dget' : ∀ a b, wpE G (n + 1) env X (.dget a b) R = (wpE G n env X a fun r => asD r fun x => wpE G n env X b fun r => asD r fun y => ∃ es, x = .dict es ∧ keyW y fun q => ∃ d, lookK es q = some d ∧ R (.dat d)) := fun a b => Eq.trans rfl rfl
theorem we_get2' : ∀ a b c, wpE G (n + 1) env X (.get2 a b c) R = (wpE G n env X a fun r => asD r fun x => ∃ es, x = .dict es ∧ wpE G n env X b fun r => asD r fun y => wpE G n env X c fun r => asD r fun z => keyN y fun q => R (.dat ((q.bind (lookK es)).getD z))) := fun a b c => Eq.trans rfl rfl
theorem we_enuT' : ∀ a, wpE G (n + 1) env X (.enuT a) R = (wpE G n env X a fun r => asD r fun d => ∃ ds, d = .tuple ds ∧ R (.dat (.list (enuL ds)))) := fun a => Eq.trans rfl rfl
theorem ws_asgN' : ∀ j e, wp1 G (n + 1) (.asg (.nm j) e) env P = (wpE G 60 env (fun x => P.xc x env) e fun r => keepS r fun s => P.nx (env.set j s)) := fun j e => Eq.trans rfl rfl
theorem ws_asgT' : ∀ ts e, wp1 G (n + 1) (.asg (.tp ts) e) env P = (wpE G 60 env (fun x => P.xc x env) e fun r => asD r fun d => tgW 9 (.tp ts) d env P.nx) := fun ts e => Eq.trans rfl rfl
theorem ws_asgO' : ∀ j e, wp1 G (n + 1) (.asgO j e) env P = (wpE G 60 env (fun x => P.xc x env) e fun r => match r with
      | .own d => j < env.length ∧ P.nx (env.set j (.own d))
      | _ => False) := fun j e => Eq.trans rfl rfl
theorem ws_par' : ∀ i j a b, wp1 G (n + 1) (.par i j a b) env P = (wpE G 60 env (fun x => P.xc x env) a fun r => wpE G 60 env (fun x => P.xc x env) b fun q => keepS r fun r => keepS q fun q => P.nx ((env.set i r).set j q)) := fun i j a b => Eq.trans rfl rfl
theorem ws_app' : ∀ j e, wp1 G (n + 1) (.app j e) env P = (match env[j]? with
      | some (.own (.list ds)) => wpE G 60 env (fun x => P.xc x env) e fun r => asD r fun d => ds.length < 16777215 ∧ P.nx (env.set j (.own (.list (ds ++ [d]))))
      | _ => False) := fun j e => Eq.trans rfl rfl
theorem ws_ext' : ∀ j e, wp1 G (n + 1) (.ext j e) env P = (match env[j]? with
      | some (.own (.list ds)) => wpE G 60 env (fun x => P.xc x env) e fun r => asD r fun d => ∃ es, d = .list es ∧ ds.length + es.length ≤ 16777215 ∧ P.nx (env.set j (.own (.list (ds ++ es))))
      | _ => False) := fun j e => Eq.trans rfl rfl
theorem ws_setL' : ∀ j i e, wp1 G (n + 1) (.setL j i e) env P = (match env[j]? with
      | some (.own (.list ds)) => wpE G 60 env (fun x => P.xc x env) e fun r => asD r fun d => wpE G 60 env (fun x => P.xc x env) i fun r => asI r fun n => ∃ m, ixN ds.length n = some m ∧ P.nx (env.set j (.own (.list (ds.set m d))))
      | some (.own (.dict es)) => wpE G 60 env (fun x => P.xc x env) e fun r => asD r fun d => wpE G 60 env (fun x => P.xc x env) i fun r => asD r fun y => keyW y fun q => es.length < 16777215 ∧ P.nx (env.set j (.own (.dict (putD es q d))))
      | _ => False) := fun j i e => Eq.trans rfl rfl
theorem ws_ifs' : ∀ c a b, wp1 G (n + 1) (.ifs c a b) env P = (wpE G 60 env (fun x => P.xc x env) c fun r => asB r fun t => if t = true then wpSeq (wp1 G n) a env P else wpSeq (wp1 G n) b env P) := fun c a b => Eq.trans rfl rfl
theorem ws_for_' : ∀ tg src body, wp1 G (n + 1) (.for_ tg src body) env P = (wpE G 60 env (fun x => P.xc x env) src fun r => asS r fun ds => forW (fun d e k => tgW 9 tg d e k) (fun e Q => wpSeq (wp1 G n) body e Q) P ds env) := fun tg src body => Eq.trans rfl rfl
theorem ws_whl' : ∀ c body, wp1 G (n + 1) (.whl c body) env P = (∃ m, whlW (fun e k => wpE G 60 e (fun x => P.xc x e) c fun r => asB r k) (fun e Q => wpSeq (wp1 G n) body e Q) P m env) := fun c body => Eq.trans rfl rfl
theorem ws_ret' : ∀ e, wp1 G (n + 1) (.ret e) env P = (wpE G 60 env (fun x => P.xc x env) e P.rt) := fun e => Eq.trans rfl rfl
theorem ws_retO' : ∀ j, wp1 G (n + 1) (.retO j) env P = (match env[j]? with
      | some (.own d) => P.rt (.own d)
      | _ => False) := fun j => Eq.trans rfl rfl
theorem ws_retN' : wp1 G (n + 1) (.retN) env P = (P.rt (.dat .none)) := Eq.trans rfl rfl
theorem ws_brk' : wp1 G (n + 1) (.brk) env P = (P.bk env) := Eq.trans rfl rfl
theorem ws_cnt' : wp1 G (n + 1) (.cnt) env P = (P.ct env) := Eq.trans rfl rfl
theorem ws_pas' : wp1 G (n + 1) (.pas) env P = (P.nx env) := Eq.trans rfl rfl
theorem ws_exs' : ∀ e, wp1 G (n + 1) (.exs e) env P = (wpE G 60 env (fun x => P.xc x env) e fun _ => P.nx env) := fun e => Eq.trans rfl rfl
theorem ws_rse0' : ∀ i, wp1 G (n + 1) (.rse0 i) env P = (match G.xs[i]? with
      | some (x, false) => P.xc ⟨x, []⟩ env
      | _ => False) := fun i => Eq.trans rfl rfl
theorem ws_rse1' : ∀ i a, wp1 G (n + 1) (.rse1 i a) env P = (match G.xs[i]? with
      | some (x, true) => wpE G 60 env (fun x => P.xc x env) a fun r => asI r fun n => n.natAbs.log2 < 1920 ∧ P.xc ⟨x, [("place", .int n)]⟩ env
      | _ => False) := fun i a => Eq.trans rfl rfl
theorem ws_frz' : ∀ j, wp1 G (n + 1) (.frz j) env P = (match env[j]? with
      | some (.own d) => P.nx (env.set j (.dat d))
      | _ => False) := fun j => Eq.trans rfl rfl
end
section
variable {f : Ex → (Sv → Prop) → Prop} {e e2 : Ex} {es : List Ex} {k : List PyData → Prop} {b : Bool → Prop} {o : Option Int → Prop}
theorem wl_nil' : wpL f [] k = k [] := Eq.trans rfl rfl
theorem wl_cons' : wpL f (e :: es) k = f e fun r => asD r fun d => wpL f es fun ds => k (d :: ds) := Eq.trans rfl rfl
theorem wa_one' : wpAnd f [e] b = f e fun r => asB r b := Eq.trans rfl rfl
theorem wa_two' : wpAnd f (e :: e2 :: es) b = f e fun r => asB r fun t => if t = true then wpAnd f (e2 :: es) b else b false := Eq.trans rfl rfl
theorem wo_one' : wpOr f [e] b = f e fun r => asB r b := Eq.trans rfl rfl
theorem wo_two' : wpOr f (e :: e2 :: es) b = f e fun r => asB r fun t => if t = true then b true else wpOr f (e2 :: es) b := Eq.trans rfl rfl
theorem wi_nil' : wpIfs f [] b = b true := Eq.trans rfl rfl
theorem wi_cons' : wpIfs f (e :: es) b = f e fun r => asB r fun t => if t = true then wpIfs f es b else b false := Eq.trans rfl rfl
theorem wq_none' : wpO f none o = o none := Eq.trans rfl rfl
theorem wq_some' : wpO f (some e) o = f e fun r => asI r fun i => o (some i) := Eq.trans rfl rfl
end
end Dr

set_option Elab.async false
set_option linter.all false
set_option maxRecDepth 100000
set_option maxHeartbeats 1000000
namespace K20
open PySem PySem.Spec PyProof.Rows L2 Cr
def topS (i : Nat) : Stmt := PySem.Challenge.pw_cutrelays_k20_bounds_and_standings.main.body.getD i (.Pass ⟨0, 0, 0, 0⟩)
abbrev sIsInt : Stmt := topS 6
abbrev sIsCount : Stmt := topS 7
abbrev sIsSnd : Stmt := topS 11
abbrev sTold : Stmt := topS 12
abbrev sIsRel : Stmt := topS 21
abbrev sIsSize : Stmt := topS 22
abbrev sKnead : Stmt := topS 35
abbrev sPotOf : Stmt := topS 36
abbrev sBelow : Stmt := topS 37
abbrev sPick : Stmt := topS 38
abbrev sSomeRel : Stmt := topS 39
abbrev sValue : Stmt := topS 40
abbrev sSending : Stmt := topS 41
local macro_rules | `(tactic| walk_at "ev") => `(tactic| first
  | exact ev_int
  | exact ev_str
  | exact ev_non
  | exact ev_bl
  | (walk_at "var")
  | (refine' ev_op ?a ?b ?c; (case a => walk_at "ev"); (case b => walk_at "ev"); (case c => walk_at "bin"))
  | (refine' ev_cmp ?a ?b ?c; (case a => walk_at "ev"); (case b => walk_at "ev"); (case c => walk_at "cmp"))
  | (refine' ev_tup ?a; (case a => walk_at "args"))
  | (refine' ev_lst ?a; (case a => walk_at "args"))
  | (refine' e_int (by assumption) ?a (by assumption); (case a => walk_at "args"))
  | (refine' e_abs (by assumption) ?a (by assumption); (case a => walk_at "args"))
  | (refine' e_max (by assumption) ?a (by assumption); (case a => walk_at "args"))
  | (refine' e_min (by assumption) ?a (by assumption); (case a => walk_at "args"))
  | (refine' e_lenL (by assumption) ?a (by assumption); (case a => walk_at "args"))
  | (refine' e_lenT (by assumption) ?a (by assumption); (case a => walk_at "args"))
  | (refine' e_intB (by assumption) ?a (by assumption); (case a => walk_at "args"))
  | (refine' ev_pure (by assumption) (by assumption) (by decide) ?a ?g; (case a => walk_at "args"); (case g => walk_at "gr"))
  | (refine' ev_ix ?a ?b ?c; (case a => walk_at "ev"); (case b => walk_at "ev"); (case c => walk_at "idx"))
  | (refine' ev_cutL (by assumption) ?a ?b ?c; (case a => walk_at "ev"); (case b => walk_at "eo"); (case c => walk_at "eo"))
  | (refine' ev_cutT (by assumption) ?a ?b ?c; (case a => walk_at "ev"); (case b => walk_at "eo"); (case c => walk_at "eo"))
  | (refine' ev_not ?a; (case a => walk_at "ev"))
  | (refine' ev_neg ?a; (case a => walk_at "ev")))
local macro_rules | `(tactic| walk_at "var") => `(tactic| first
  | exact ev_var (by assumption) 0 rfl rfl
  | exact ev_var (by assumption) 1 rfl rfl
  | exact ev_var (by assumption) 2 rfl rfl
  | exact ev_var (by assumption) 3 rfl rfl
  | exact ev_var (by assumption) 4 rfl rfl
  | exact ev_var (by assumption) 5 rfl rfl
  | exact ev_var (by assumption) 6 rfl rfl
  | exact ev_var (by assumption) 7 rfl rfl
  | exact ev_var (by assumption) 8 rfl rfl
  | exact ev_var (by assumption) 9 rfl rfl
  | exact ev_var (by assumption) 10 rfl rfl
  | exact ev_var (by assumption) 11 rfl rfl
  | exact ev_raw (by assumption) 0 rfl rfl
  | exact ev_raw (by assumption) 1 rfl rfl
  | exact ev_raw (by assumption) 2 rfl rfl)
local macro_rules | `(tactic| walk_at "args") => `(tactic| first
  | exact a_nil
  | (refine' a_cons ?h ?t; (case h => walk_at "ev"); (case t => walk_at "args"))
  | (refine' r_cons ?h ?t; (case h => walk_at "ev"); (case t => walk_at "args")))
local macro_rules | `(tactic| walk_at "et") => `(tactic| first
  | (refine' et_cmp ?a ?b ?c; (case a => walk_at "ev"); (case b => walk_at "ev"); (case c => walk_at "cmp"))
  | (refine' et_not ?a; (case a => walk_at "et"))
  | (refine' et_val ?a; (case a => walk_at "ev")))
local macro_rules | `(tactic| walk_at "eo") => `(tactic| first
  | exact eo_none
  | (refine' eo_some ?a; (case a => walk_at "ev")))
local macro_rules | `(tactic| walk_at "bin") => `(tactic| first
  | with_reducible exact b_add
  | with_reducible exact b_sub
  | ((with_reducible refine b_mul ?_); first | exact Or.inr ⟨by decide, by decide⟩ | exact Or.inl ⟨by decide, by decide⟩ | exact Or.inl ⟨by omega, by omega⟩)
  | ((with_reducible refine b_mod ?_); first | decide | omega)
  | ((with_reducible refine b_div ?_); assumption)
  | ((with_reducible refine b_pow ?_); exact ⟨by decide, by decide, by decide⟩)
  | ((with_reducible refine b_cat ?_); exact sz_small (by simp only [List.length_cons, List.length_nil, List.length_append]; omega))
  | ((with_reducible refine b_catT (by assumption) ?_); exact sz_small (by simp only [List.length_cons, List.length_nil, List.length_append]; omega)))
local macro_rules | `(tactic| walk_at "cmp") => `(tactic| first
  | with_reducible exact b_lt
  | with_reducible exact b_le
  | with_reducible exact b_gt
  | with_reducible exact b_ge
  | with_reducible exact b_eqI
  | with_reducible exact b_eqS
  | with_reducible exact b_neI
  | with_reducible exact b_neS
  | with_reducible exact b_isN
  | with_reducible exact b_notN
  | ((with_reducible refine n_eq (by assumption) ?_ ?_) <;> (walk_at "nice"))
  | ((with_reducible refine n_ne (by assumption) ?_ ?_) <;> (walk_at "nice")))
local macro_rules | `(tactic| walk_at "nice") => `(tactic| first
  | exact Nice.int
  | exact Nice.none
  | exact Nice.bool
  | exact Nice.str (by decide +kernel)
  | assumption
  | (refine Nice.tuple ?_; walk_at "nice")
  | (refine Nice.list ?_; walk_at "nice")
  | exact NiceAll.nil
  | (refine NiceAll.cons ?_ ?_ <;> (walk_at "nice")))
local macro_rules | `(tactic| walk_at "idx") => `(tactic| first
  | exact i_list (by assumption) rfl
  | exact i_tup (by assumption) rfl)
local macro_rules | `(tactic| walk_at "gr") => `(tactic| first
  | exact ⟨_, rfl, rfl⟩
  | exact ⟨_, rfl, rfl, by assumption⟩)
local macro_rules | `(tactic| walk_at "tgs") => `(tactic| first
  | exact tgs_nil
  | (refine' tgs_cons ?h ?t; (case h => walk_at "tg"); (case t => walk_at "tgs")))
local macro_rules | `(tactic| walk_at "tg") => `(tactic| first
  | exact tg_name (by assumption) 0 rfl
  | exact tg_name (by assumption) 1 rfl
  | exact tg_name (by assumption) 2 rfl
  | exact tg_name (by assumption) 3 rfl
  | exact tg_name (by assumption) 4 rfl
  | exact tg_name (by assumption) 5 rfl
  | exact tg_name (by assumption) 6 rfl
  | exact tg_name (by assumption) 7 rfl
  | exact tg_name (by assumption) 8 rfl
  | exact tg_name (by assumption) 9 rfl)
local macro_rules | `(tactic| walk_at "fls") => `(tactic| first
  | exact ne_self
  | exact eqv_ne (n := 20) (by walk_at "nice") rfl)
inductive Way | length | marks | close
  deriving DecidableEq
def Way.s : Way → Str
  | .length => "length"
  | .marks => "marks"
  | .close => "close"
inductive En | mark | op | shut
  deriving DecidableEq
def En.s : En → Str
  | .mark => "mark"
  | .op => "open"
  | .shut => "shut"
structure Snd where
  meant : Int
  way : Way
  told : Int
  units : Int
  en : En
def Snd.toldD (s : Snd) : PyData := match s.way with
  | .length => .int s.told
  | _ => .none
def Snd.d (s : Snd) : PyData := .tuple [.int s.meant, .str s.way.s, s.toldD, .int s.units, .str s.en.s]
structure Snd.ok (s : Snd) : Prop where
  m : 0 ≤ s.meant ∧ s.meant ≤ 1000000000000
  u : 0 ≤ s.units ∧ s.units ≤ 1000000000000
  t : s.way = .length → s.units ≤ s.told ∧ s.told ≤ 1000000000000
  e : s.en = .mark → s.way = .marks
theorem way_len (w : Way) : decide (w.s = "length") = decide (w = .length) := by cases w <;> decide
theorem way_mar (w : Way) : decide (w.s = "marks") = decide (w = .marks) := by cases w <;> decide
theorem way_clo (w : Way) : decide (w.s = "close") = decide (w = .close) := by cases w <;> decide
theorem en_mark (e : En) : decide (e.s = "mark") = decide (e = .mark) := by cases e <;> decide
theorem en_open (e : En) : decide (e.s = "open") = decide (e = .op) := by cases e <;> decide
theorem en_shut (e : En) : decide (e.s = "shut") = decide (e = .shut) := by cases e <;> decide
theorem way_nice (w : Way) {n : Nat} : Nice (.str w.s) n := Nice.str (by cases w <;> decide +kernel)
theorem en_nice (e : En) {n : Nat} : Nice (.str e.s) n := Nice.str (by cases e <;> decide +kernel)
theorem told_nice (s : Snd) {n : Nat} : Nice s.toldD n := by
  unfold Snd.toldD
  cases s.way
  · exact Nice.int
  · exact Nice.none
  · exact Nice.none
theorem snd_nice (s : Snd) {n : Nat} : Nice s.d (n + 1) := Nice.tuple (.cons Nice.int (.cons (way_nice _) (.cons (told_nice s) (.cons Nice.int (.cons (en_nice _) .nil)))))
def PreII (ds : List PyData) : Prop := ∃ a b : Int, ds = [.int a, .int b]
def RnI (_ : List PyData) (r : PyData) : Prop := ∃ n : Int, r = .int n
-- seed lap prime amount again
theorem scKnead : FnScope ["seed", "lap", "prime", "amount", "again"] ["seed", "lap"] (defScope sKnead) := ⟨rfl, rfl, rfl, by decide +kernel, rfl, by decide +kernel, by decide +kernel⟩
section
variable {P : Program} {w : World} {K : PySem.W.Frag} {mg : Str → Option Value} {base : Heap} {f : Addr} {fd : FuncData}
theorem ok_knead (Fu : Fun K "_law_kneaded" "_law_kneaded" sKnead f fd) (mInt : mg "int" = none) (mRange : mg "range" = none) : FnG P w K mg base 1 f fd ["seed", "lap"] (spN K RnI PreII) := by
  refine fn_some Fu scKnead (fun ds ⟨a, b, e⟩ => by rw [e]; rfl) ?_
  intro cdv A fr s H E W ds fm ⟨a, b, e⟩
  subst e
  refine' bd_set1 fm 2 rfl (r := .dat (.int 2305843009213693907)) ev_int ?_
  refine' bd_set1 fm 3 rfl (ev_op (e_int fm (a_cons (ev_op (ev_op (ev_op (ev_var fm 0 rfl rfl) ev_int (by walk_at "bin")) (ev_op (ev_var fm 1 rfl rfl) ev_int (by walk_at "bin")) (by walk_at "bin")) ev_int (by walk_at "bin")) a_nil) mInt) (ev_var fm 2 rfl rfl) (by walk_at "bin")) ?_
  refine' bd_forR fm (n := 4) (fun _ env => ∃ (n : Int) (r : Sl), 0 ≤ n ∧ n < 2305843009213693907 ∧ env = [.dat (.int a), .dat (.int b), .dat (.int 2305843009213693907), .dat (.int n), r]) (a_cons ev_int a_nil) (by decide) mRange ?h0 ?hs ?hd
  case h0 => exact ⟨_, _, Int.emod_nonneg _ (by decide), Int.emod_lt_of_pos _ (by decide), rfl⟩
  case hs =>
    intro i env hi ⟨n, r, h0, h1, e⟩
    subst e
    refine ⟨_, tg_name fm 4 rfl, ?_⟩
    refine' bd_set1 fm 3 rfl (ev_op (e_int fm (a_cons (ev_op (ev_op (ev_op (ev_op (ev_var fm 3 rfl rfl) (ev_var fm 3 rfl rfl) (by walk_at "bin")) (ev_op ev_int (ev_var fm 3 rfl rfl) (by walk_at "bin")) (by walk_at "bin")) (ev_op ev_int (ev_var fm 4 rfl rfl) (by walk_at "bin")) (by walk_at "bin")) (ev_var fm 1 rfl rfl) (by walk_at "bin")) a_nil) mInt) (ev_var fm 2 rfl rfl) (by walk_at "bin")) ?_
    refine bd_nil ?_
    exact ⟨_, _, Int.emod_nonneg _ (by decide), Int.emod_lt_of_pos _ (by decide), rfl⟩
  case hd =>
    intro env ⟨n, r, h0, h1, e⟩
    subst e
    refine' bd_ret1 (ev_op (ev_op (ev_var fm 3 rfl rfl) (ev_var fm 2 rfl rfl) (by walk_at "bin")) (ev_op (e_int fm (a_cons (ev_op (ev_op (ev_var fm 3 rfl rfl) ev_int (by walk_at "bin")) (ev_var fm 1 rfl rfl) (by walk_at "bin")) a_nil) mInt) (ev_var fm 2 rfl rfl) (by walk_at "bin")) (by walk_at "bin")) ?_
    exact ⟨_, rfl, _, rfl⟩
end
def PreB (ds : List PyData) : Prop := ∃ n : Int, ds = [.int n] ∧ 0 < n ∧ n < 2 ^ 200
def RnB (ds : List PyData) (r : PyData) : Prop := ∀ n : Int, ds = [.int n] → ∃ m : Int, r = .int m ∧ 0 ≤ m ∧ m < n
-- pot bound cells place amount found

theorem scBelow : FnScope ["pot", "bound", "cells", "place", "amount", "found"] ["pot", "bound"] (defScope sBelow) := ⟨rfl, rfl, rfl, by decide +kernel, rfl, by decide +kernel, by decide +kernel⟩
section
variable {P : Program} {w : World} {K : PySem.W.Frag} {mg : Str → Option Value} {base : Heap} {f : Addr} {fd : FuncData}
theorem ok_below (Fu : Fun K "_law_below" "_law_below" sBelow f fd) (oK : Own P w K mg base "_law_kneaded" 1 ["seed", "lap"] (spN K RnI PreII)) (mInt : mg "int" = none) (mLen : mg "len" = none) : FnG P w K mg base 2 f fd ["pot", "bound"] (spD K PreB RnB) := by
  refine fn_draw Fu scBelow (fun ds ⟨n, e, _⟩ => by rw [e]; rfl) ?_
  intro cdv A fr s H E W p c ns ds fm dw ⟨n, e, n0, n1⟩
  subst e
  have dv : CDivW n n := wide_div n0 (b := 200) (by omega) (by decide) (by decide)
  have dn : ∀ i : Int, CDivW i n := fun _ => dv
  refine' bd_ifJ (R := fun _ => True) (fun env => ∃ r2 r3 r4 r5, env = [.raw (.ref p), .dat (.int n), r2, r3, r4, r5]) (et_cmpN (ev_potI fm dw (Or.inr (Or.inr rfl)) (ev_raw fm 0 rfl rfl) ev_int) (ev_var fm 1 rfl rfl) ?ht) ?h1 ?h2 ?h3
  case ht =>
    rintro x y ⟨m, rfl⟩ rfl
    exact ⟨_, _, rfl, rfl, Bin.tr b_lt trivial⟩
  case h1 =>
    intro _
    refine' bd_par fm 2 3 rfl rfl (by decide) (ea_cons (ev_pot0 fm dw (ev_raw fm 0 rfl rfl) ev_int) (ea_cons (ev_potI fm dw (Or.inl rfl) (ev_raw fm 0 rfl rfl) ev_int) ea_nil)) ?_
    rintro rs ⟨r, t, rfl, rfl, r', t', rfl, ⟨pl, rfl⟩, rfl⟩
    refine ⟨_, _, rfl, ?_⟩
    refine' bd_set fm 4 rfl (ev_if (R := fun s => ∃ n, s = .dat (.int n)) (et_cells fm dw (ev_raw fm 2 rfl rfl)) (fun ne => ev_cellIx fm dw (ev_raw fm 2 rfl rfl) (ev_op (ev_var fm 3 rfl rfl) (ev_cellLen fm dw (ev_raw fm 2 rfl rfl) mLen) (b_mod ?hp)) ?hR) (fun _ => Ev.imp ev_int (fun r e => ⟨_, e⟩))) ?_
    case hp =>
      cases ns with
      | nil => exact absurd ne (by decide)
      | cons _ _ => simp only [List.length_cons]; omega
    case hR =>
      rintro r rfl
      have hl : 0 < ns.length := by
        cases ns with
        | nil => exact absurd ne (by decide)
        | cons _ _ => simp only [List.length_cons]; omega
      have h0 := Int.emod_nonneg pl (show (ns.length : Int) ≠ 0 by omega)
      have h1 := Int.emod_lt_of_pos pl (show (0 : Int) < ns.length by omega)
      exact ⟨(pl % (ns.length : Int)).toNat, by rw [Int.toNat_of_nonneg h0], by omega⟩
    rintro r ⟨am, rfl⟩
    refine' bd_ifJ (R := fun _ => True) (fun env => ∃ am : Int, env = [.raw (.ref p), .dat (.int n), .raw (.ref c), .dat (.int pl), .dat (.int am), .any]) (et_w (ew_or (et_any (et_cmp (ev_var fm 3 rfl rfl) (ev_cellLen fm dw (ev_raw fm 2 rfl rfl) mLen) b_ge)) (fun _ => ew_or1 (et_any (et_cmp (ev_var fm 4 rfl rfl) (ev_op ev_int ev_int (by walk_at "bin")) (by walk_at "cmp")))) (fun _ => trivial))) ?g1 ?g2 ?g3
    case g1 =>
      intro _
      refine' bd_set fm 4 rfl (ev_some fm oK (by decide) (a_cons (ev_op (e_int fm (a_cons (ev_var fm 4 rfl rfl) a_nil) mInt) ev_int (by walk_at "bin")) (a_cons (ev_var fm 3 rfl rfl) a_nil)) ⟨_, _, rfl⟩) ?_
      rintro r ⟨_, rfl, m, rfl⟩
      exact bd_nil ⟨m, rfl⟩
    case g2 =>
      intro _
      exact bd_nil ⟨am, rfl⟩
    case g3 =>
      rintro e ⟨am, rfl⟩
      refine' bd_setPot fm dw (Or.inl rfl) (ev_op (ev_var fm 3 rfl rfl) ev_int (by walk_at "bin")) (fun r e => ⟨_, e⟩) (ev_raw fm 0 rfl rfl) ev_int ?_
      refine' bd_setPot fm dw (Or.inr (Or.inl rfl)) (ev_var fm 4 rfl rfl) (fun r e => ⟨_, e⟩) (ev_raw fm 0 rfl rfl) ev_int ?_
      refine' bd_setPot fm dw (Or.inr (Or.inr rfl)) (ev_var fm 4 rfl rfl) (fun r e => ⟨_, e⟩) (ev_raw fm 0 rfl rfl) ev_int ?_
      exact bd_nil ⟨_, _, _, _, rfl⟩
  case h2 =>
    intro _
    exact bd_nil ⟨_, _, _, _, rfl⟩
  case h3 =>
    rintro e ⟨r2, r3, r4, r5, rfl⟩
    refine' bd_set fm 5 rfl (ev_opN (R := fun s => ∃ m : Int, s = .dat (.int m) ∧ 0 ≤ m ∧ m < n) (e_intN fm (ev_potI fm dw (Or.inr (Or.inl rfl)) (ev_raw fm 0 rfl rfl) ev_int) mInt) (ev_var fm 1 rfl rfl) ?ho) ?_
    case ho =>
      rintro x y ⟨m, rfl⟩ rfl
      exact ⟨_, _, rfl, rfl, Bin.some (b_mod n0) ⟨_, rfl, Int.emod_nonneg _ (by omega), Int.emod_lt_of_pos _ n0⟩⟩
    rintro r ⟨m, rfl, m0, m1⟩
    refine' bd_setPot fm dw (Or.inr (Or.inl rfl)) (ev_opN (R := fun s => ∃ m : Int, s = .dat (.int m)) (ev_potI fm dw (Or.inr (Or.inl rfl)) (ev_raw fm 0 rfl rfl) ev_int) (ev_var fm 1 rfl rfl) ?h1) (fun r e => e) (ev_raw fm 0 rfl rfl) ev_int ?_
    case h1 =>
      rintro x y ⟨m, rfl⟩ rfl
      exact ⟨_, _, rfl, rfl, Bin.some (b_div (dn _)) ⟨_, rfl⟩⟩
    refine' bd_setPot fm dw (Or.inr (Or.inr rfl)) (ev_opN (R := fun s => ∃ m : Int, s = .dat (.int m)) (ev_potI fm dw (Or.inr (Or.inr rfl)) (ev_raw fm 0 rfl rfl) ev_int) (ev_var fm 1 rfl rfl) ?h2) (fun r e => e) (ev_raw fm 0 rfl rfl) ev_int ?_
    case h2 =>
      rintro x y ⟨m, rfl⟩ rfl
      exact ⟨_, _, rfl, rfl, Bin.some (b_div (dn _)) ⟨_, rfl⟩⟩
    refine' bd_ret1 (ev_var fm 5 rfl rfl) ⟨_, rfl, fun n' e => ?_⟩
    cases e
    exact ⟨m, rfl, m0, m1⟩
end
def PreP (ds : List PyData) : Prop := ∃ xs : List PyData, ds = [.list xs] ∧ 0 < xs.length ∧ xs.length ≤ 1000000
def RnP (ds : List PyData) (r : PyData) : Prop := ∀ xs : List PyData, ds = [.list xs] → r ∈ xs
-- pot items

theorem scPick : FnScope ["pot", "items"] ["pot", "items"] (defScope sPick) := ⟨rfl, rfl, rfl, by decide +kernel, rfl, by decide +kernel, by decide +kernel⟩
theorem atI_in {xs : List PyData} {m : Int} (h0 : 0 ≤ m) (h1 : m < xs.length) : ∃ d, atI xs m = some d ∧ d ∈ xs := by
  have hj : m.toNat < xs.length := by omega
  refine ⟨xs[m.toNat], ?_, List.getElem_mem hj⟩
  have e : m = ((m.toNat : Nat) : Int) := (Int.toNat_of_nonneg h0).symm
  exact (congrArg (atI xs) e).trans (atI_nat (List.getElem?_eq_getElem hj))
section
variable {P : Program} {w : World} {K : PySem.W.Frag} {mg : Str → Option Value} {base : Heap} {f : Addr} {fd : FuncData}
theorem ok_pick (Fu : Fun K "_law_pick" "_law_pick" sPick f fd) (oB : Own P w K mg base "_law_below" 2 ["pot", "bound"] (spD K PreB RnB)) (mLen : mg "len" = none) : FnG P w K mg base 3 f fd ["pot", "items"] (spD K PreP RnP) := by
  refine fn_draw Fu scPick (fun ds ⟨n, e, _⟩ => by rw [e]; rfl) ?_
  intro cdv A fr s H E W p c ns ds fm dw ⟨xs, e, n0, n1⟩
  subst e
  refine bd_ret (ev_ixN (R := fun s => ∃ d, s = .dat d ∧ d ∈ xs) (ev_var fm 1 rfl rfl) (ev_draw fm dw oB (by decide) (r_cons (ev_raw fm 0 rfl rfl) (a_cons (by first | exact e_lenL fm (a_cons (ev_var fm 1 rfl rfl) a_nil) mLen | exact e_lenT fm (a_cons (ev_var fm 1 rfl rfl) a_nil) mLen) a_nil)) ⟨_, rfl, by omega, by omega⟩) ?_) ?_
  · rintro x y rfl ⟨r, rfl, hr⟩
    obtain ⟨m, rfl, m0, m1⟩ := hr _ rfl
    obtain ⟨d, hd, hm⟩ := atI_in m0 m1
    refine ⟨_, _, rfl, rfl, ?_⟩
    intro H vx vy i nx ny Q q
    exact i_list fm hd H vx vy i nx ny Q fun v H' r x' i' d' e => q v H' r x' i' d' (by rw [e]; exact ⟨d, rfl, hm⟩)
  · rintro r ⟨d, rfl, hm⟩
    refine ⟨d, rfl, fun ys e => ?_⟩
    cases e
    exact hm
end
def PreV (ds : List PyData) : Prop := ∃ ns : List Int, ds = [.list (ns.map .int)] ∧ 0 < ns.length ∧ ns.length ≤ 1000000
def RnV (_ : List PyData) (r : PyData) : Prop := ∃ n : Int, r = .int n ∧ 0 ≤ n ∧ n ≤ 1000000000000
-- pot some

theorem scValue : FnScope ["pot", "some"] ["pot", "some"] (defScope sValue) := ⟨rfl, rfl, rfl, by decide +kernel, rfl, by decide +kernel, by decide +kernel⟩
theorem pick_int {ns : List Int} {r : PyData} (h : r ∈ ns.map PyData.int) : ∃ n, r = .int n := by
  obtain ⟨n, _, e⟩ := List.mem_map.mp h
  exact ⟨n, e.symm⟩
section
variable {P : Program} {w : World} {K : PySem.W.Frag} {mg : Str → Option Value} {base : Heap} {f : Addr} {fd : FuncData}
theorem ok_value (Fu : Fun K "_law_some_value" "_law_some_value" sValue f fd) (oP : Own P w K mg base "_law_pick" 3 ["pot", "items"] (spD K PreP RnP)) (mMax : mg "max" = none) (mMin : mg "min" = none) : FnG P w K mg base 4 f fd ["pot", "some"] (spD K PreV RnV) := by
  refine fn_draw Fu scValue (fun ds ⟨n, e, _⟩ => by rw [e]; rfl) ?_
  intro cdv A fr s H E W p c ns ds fm dw ⟨xs, e, n0, n1⟩
  subst e
  refine bd_ret (R := fun s => ∃ n : Int, s = .dat (.int n) ∧ 0 ≤ n ∧ n ≤ 1000000000000) (ev_callBN (id := "max") fm (ea_cons (R := fun s => s = .dat (.int 0)) ev_int (ea_cons (R := fun s => ∃ n : Int, s = .dat (.int n) ∧ n ≤ 1000000000000) (ev_callBN (id := "min") fm (ea_cons (ev_op ev_int ev_int (by walk_at "bin")) (ea_cons (R := fun s => ∃ n : Int, s = .dat (.int n)) (ev_opN
    (ev_draw fm dw oP (by decide) (r_cons (ev_raw fm 0 rfl rfl) (a_cons (ev_var fm 1 rfl rfl) a_nil)) ⟨_, rfl, by rw [List.length_map]; exact n0, by rw [List.length_map]; exact n1⟩)
    (ev_draw fm dw oP (by decide) (r_cons (ev_raw fm 0 rfl rfl) (a_cons (ev_lst (a_cons ev_int (a_cons ev_int (a_cons ev_int (a_cons ev_int (a_cons (ev_op ev_int ev_int (by walk_at "bin")) a_nil)))))) a_nil)) ⟨_, rfl, by decide, by decide⟩) ?_) ea_nil)) mMin ?_) ea_nil)) mMax ?_) ?_
  · rintro x y ⟨r, rfl, hr⟩ ⟨r', rfl, hr'⟩
    obtain ⟨n, rfl⟩ := pick_int (hr _ rfl)
    have hm : ∃ m, r' = .int m := by
      have := hr' _ rfl
      simp only [List.mem_cons, List.not_mem_nil, or_false] at this
      rcases this with h | h | h | h | h <;> exact ⟨_, h⟩
    obtain ⟨m, rfl⟩ := hm
    exact ⟨_, _, rfl, rfl, Bin.some b_add ⟨_, rfl⟩⟩
  · rintro rs ⟨r, t, rfl, rfl, r', t', rfl, ⟨n, rfl⟩, rfl⟩
    refine ⟨[.int (10 ^ (12 : Int).toNat), .int n], rfl, Cal.some (c_min fm) ⟨_, rfl, ?_⟩⟩
    have e12 : (10 : Int) ^ (12 : Int).toNat = 1000000000000 := by decide
    rw [e12]
    split <;> omega
  · rintro rs ⟨r, t, rfl, rfl, r', t', rfl, ⟨n, rfl, hn⟩, rfl⟩
    refine ⟨[.int 0, .int n], rfl, Cal.some (c_max fm) ⟨_, rfl, ?_, ?_⟩⟩
    · split <;> omega
    · split <;> omega
  · rintro r ⟨n, rfl, h⟩
    exact ⟨_, rfl, n, rfl, h⟩
end
def RnS (_ : List PyData) (r : PyData) : Prop := ∃ s : Snd, s.ok ∧ r = s.d
-- pot some meant units told way end lap

theorem scSending : FnScope ["pot", "some", "meant", "units", "told", "way", "end", "lap"] ["pot", "some"] (defScope sSending) := ⟨rfl, rfl, rfl, by decide +kernel, rfl, by decide +kernel, by decide +kernel⟩
theorem pick_way {r : PyData} (h : r ∈ [PyData.str "length", .str "length", .str "marks", .str "close"]) : ∃ w : Way, r = .str w.s := by
  simp only [List.mem_cons, List.not_mem_nil, or_false] at h
  rcases h with h | h | h | h
  · exact ⟨.length, h⟩
  · exact ⟨.length, h⟩
  · exact ⟨.marks, h⟩
  · exact ⟨.close, h⟩
theorem pick_en {w : Way} {r : PyData} (h : r ∈ [PyData.str "open", .str "shut"] ++ (List.replicate (if decide (w.s = "marks") = true then (1 : Int) else 0).toNat [PyData.str "mark", .str "mark"]).flatten) : ∃ e : En, r = .str e.s ∧ (e = .mark → w = .marks) := by
  rcases List.mem_append.mp h with h | h
  · simp only [List.mem_cons, List.not_mem_nil, or_false] at h
    rcases h with h | h
    · exact ⟨.op, h, fun z => nomatch z⟩
    · exact ⟨.shut, h, fun z => nomatch z⟩
  · cases w with
    | marks =>
      refine ⟨.mark, ?_, fun _ => rfl⟩
      rw [way_mar] at h
      have h2 : r ∈ [PyData.str "mark", .str "mark"] := h
      simp only [List.mem_cons, List.not_mem_nil, or_false] at h2
      rcases h2 with h2 | h2 <;> exact h2
    | length =>
      rw [way_mar] at h
      exact absurd (show r ∈ ([] : List PyData) from h) List.not_mem_nil
    | close =>
      rw [way_mar] at h
      exact absurd (show r ∈ ([] : List PyData) from h) List.not_mem_nil
section
variable {P : Program} {w : World} {K : PySem.W.Frag} {mg : Str → Option Value} {base : Heap} {f : Addr} {fd : FuncData}
theorem ok_sending (Fu : Fun K "_law_some_sending" "_law_some_sending" sSending f fd) (oV : Own P w K mg base "_law_some_value" 4 ["pot", "some"] (spD K PreV RnV)) (oP : Own P w K mg base "_law_pick" 3 ["pot", "items"] (spD K PreP RnP)) (oB : Own P w K mg base "_law_below" 2 ["pot", "bound"] (spD K PreB RnB))
    (mMax : mg "max" = none) (mInt : mg "int" = none) (mRange : mg "range" = none) : FnG P w K mg base 5 f fd ["pot", "some"] (spD K PreV RnS) := by
  refine fn_draw Fu scSending (fun ds ⟨n, e, _⟩ => by rw [e]; rfl) ?_
  intro cdv A fr s H E W p c ns ds fm dw ⟨xs, e, n0, n1⟩
  subst e
  refine' bd_asg (ev_lcR fm (n := 3) (f := fun _ => true) (R := fun _ e => RnV [] e) 7 rfl (by decide +kernel) (a_cons ev_int a_nil) mRange (fun _ _ _ _ _ _ => if_nil) ?he (by decide)) ?_
  case he =>
    intro i D acc hi _ nD fm
    exact Ev.imp (ev_draw fm (dw.plus nD) oV (by decide) (r_cons (ev_raw fm 0 rfl rfl) (a_cons (ev_var fm 1 rfl rfl) a_nil)) ⟨_, rfl, n0, n1⟩) fun r ⟨e, e1, e2⟩ => ⟨e, e1, e2⟩
  rintro r ⟨es, rfl, pr⟩
  obtain ⟨_, _, _, rfl, ⟨m, rfl, m0, m1⟩, ⟨u, rfl, u0, u1⟩, ⟨t, rfl, t0, t1⟩⟩ := paired3 pr
  refine ⟨_, tg_unl fm (tgs_cons (tg_name fm 2 rfl) (tgs_cons (tg_name fm 3 rfl) (tgs_cons (tg_name fm 4 rfl) tgs_nil))) 3 rfl, ?_⟩
  refine' bd_set fm 5 rfl (ev_draw fm dw oP (by decide) (r_cons (ev_raw fm 0 rfl rfl) (a_cons (ev_lst (a_cons ev_str (a_cons ev_str (a_cons ev_str (a_cons ev_str a_nil))))) a_nil)) ⟨_, rfl, by decide, by decide⟩) ?_
  rintro r ⟨r, rfl, hr⟩
  obtain ⟨wy, rfl⟩ := pick_way (hr _ rfl)
  have hone : ∀ b : Bool, (if b = true then (1 : Int) else 0).toNat ≤ 1 := by decide
  have hfl : ∀ b : Bool, ([PyData.str "open", .str "shut"] ++ (List.replicate (if b = true then (1 : Int) else 0).toNat [PyData.str "mark", .str "mark"]).flatten).length ≤ 4 := by intro b; cases b <;> decide
  refine' bd_set fm 6 rfl (ev_draw fm dw oP (by decide) (r_cons (ev_raw fm 0 rfl rfl) (a_cons (ev_op (ev_lst (a_cons ev_str (a_cons ev_str a_nil))) (ev_op (ev_lst (a_cons ev_str (a_cons ev_str a_nil))) (e_intB fm (a_cons (ev_cmp (ev_var fm 5 rfl rfl) ev_str (by walk_at "cmp")) a_nil) mInt) (b_rep ?a1 ?a2 ?a3)) (b_cat ?a4)) a_nil)) ⟨_, rfl, ?a5, ?a6⟩) ?_
  case a1 => split <;> decide
  case a2 => split <;> decide
  case a3 => exact sz_small (by have := hone (decide (wy.s = "marks")); simp only [List.length_cons, List.length_nil]; omega)
  case a4 => exact sz_small (by have := hfl (decide (wy.s = "marks")); rw [List.length_append] at this; omega)
  case a5 => rw [List.length_append]; simp only [List.length_cons, List.length_nil]; omega
  case a6 => have := hfl (decide (wy.s = "marks")); omega
  rintro r ⟨r, rfl, hr⟩
  obtain ⟨en, rfl, hen⟩ := pick_en (hr _ rfl)
  refine' bd_ifJ (R := fun _ => True) (fun env => ∃ u : Int, 0 ≤ u ∧ u ≤ 1000000000000 ∧ env = [.raw (.ref p), .dat (.list (xs.map .int)), .dat (.int m), .dat (.int u), .dat (.int t), .dat (.str wy.s), .dat (.str en.s), .any]) (et_cmpN (ev_draw fm dw oB (by decide) (r_cons (ev_raw fm 0 rfl rfl) (a_cons ev_int a_nil)) ⟨_, rfl, by decide, by decide⟩) ev_int ?t1) ?g1 ?g2 ?g3
  case t1 =>
    rintro x y ⟨r, rfl, hr⟩ rfl
    obtain ⟨b, rfl, _⟩ := hr _ rfl
    exact ⟨_, _, rfl, rfl, Bin.tr b_eqI trivial⟩
  case g1 =>
    intro _
    refine' bd_set1 fm 3 rfl (ev_var fm 2 rfl rfl) (bd_nil ⟨m, m0, m1, rfl⟩)
  case g2 =>
    intro _
    exact bd_nil ⟨u, u0, u1, rfl⟩
  case g3 =>
    rintro _ ⟨u, u0, u1, rfl⟩
    refine' bd_ifJ (R := fun _ => True) (fun env => ∃ t : Int, 0 ≤ t ∧ t ≤ 1000000000000 ∧ env = [.raw (.ref p), .dat (.list (xs.map .int)), .dat (.int m), .dat (.int u), .dat (.int t), .dat (.str wy.s), .dat (.str en.s), .any]) (et_cmpN (ev_draw fm dw oB (by decide) (r_cons (ev_raw fm 0 rfl rfl) (a_cons ev_int a_nil)) ⟨_, rfl, by decide, by decide⟩) ev_int ?t2) ?k1 ?k2 ?k3
    case t2 =>
      rintro x y ⟨r, rfl, hr⟩ rfl
      obtain ⟨b, rfl, _⟩ := hr _ rfl
      exact ⟨_, _, rfl, rfl, Bin.tr b_eqI trivial⟩
    case k1 =>
      intro _
      refine' bd_set fm 4 rfl (ev_draw fm dw oP (by decide) (r_cons (ev_raw fm 0 rfl rfl) (a_cons (ev_lst (a_cons (ev_var fm 2 rfl rfl) (a_cons (ev_var fm 3 rfl rfl) a_nil))) a_nil)) ⟨_, rfl, by show 0 < 2; decide, by show 2 ≤ 1000000; decide⟩) ?_
      rintro r ⟨r, rfl, hr⟩
      have h := hr _ rfl
      simp only [List.mem_cons, List.not_mem_nil, or_false] at h
      rcases h with rfl | rfl
      · exact bd_nil ⟨m, m0, m1, rfl⟩
      · exact bd_nil ⟨u, u0, u1, rfl⟩
    case k2 =>
      intro _
      exact bd_nil ⟨t, t0, t1, rfl⟩
    case k3 =>
      rintro _ ⟨t, t0, t1, rfl⟩
      refine' bd_ret1 (r := .dat (Snd.d ⟨m, wy, if u > t then u else t, u, en⟩)) (ev_tup (a_cons (ev_var fm 2 rfl rfl) (a_cons (ev_var fm 5 rfl rfl) (a_cons (ev_if (R := fun z => z = .dat (Snd.toldD ⟨m, wy, if u > t then u else t, u, en⟩)) (et_cmp (ev_var fm 5 rfl rfl) ev_str (by walk_at "cmp")) ?v1 ?v2) (a_cons (ev_var fm 3 rfl rfl) (a_cons (ev_var fm 6 rfl rfl) a_nil)))))) ⟨_, rfl, _, ?ok, rfl⟩
      case v1 =>
        intro h
        rw [way_len] at h
        refine E1.is (e_max fm (a_cons (ev_var fm 4 rfl rfl) (a_cons (ev_var fm 3 rfl rfl) a_nil)) mMax) ?_
        rw [show wy = .length from of_decide_eq_true h.symm] <;> rfl
      case v2 =>
        intro h
        rw [way_len] at h
        refine E1.is ev_non ?_
        cases wy
        · exact absurd h (by decide)
        · rfl
        · rfl
      case ok =>
        refine ⟨⟨m0, m1⟩, ⟨u0, u1⟩, fun _ => ?_, hen⟩
        show u ≤ (if u > t then u else t) ∧ (if u > t then u else t) ≤ 1000000000000
        split <;> omega
end
def Snd.whole (s : Snd) : Bool := match s.way with
  | .length => decide (s.units = s.told)
  | .marks => decide (s.en = .mark)
  | .close => decide (s.en = .shut)
def Snd.word (s : Snd) : Str := if s.whole = true then "whole" else if s.en = .shut then "cut" else "waits"
def Snd.rd (s : Snd) : PyData := .tuple [.str s.word, .int s.units]
def Snd.tr (s : Snd) : PyData := .tuple (if s.whole = true ∧ s.units ≠ s.meant then [.str "fooled"] else if s.whole = false ∧ s.en ≠ .shut then [.str "waits"] else [])
theorem word_whole (s : Snd) : decide (s.word = "whole") = s.whole := by
  unfold Snd.word
  cases s.whole
  · rw [if_neg Bool.false_ne_true]
    split <;> decide
  · rw [if_pos rfl]
    decide
theorem word_waits (s : Snd) : decide (s.word = "waits") = (!s.whole && decide (s.en ≠ .shut)) := by
  unfold Snd.word
  cases s.whole
  · rw [if_neg Bool.false_ne_true]
    by_cases h : s.en = .shut
    · rw [if_pos h, h]
      decide
    · rw [if_neg h, decide_eq_true h]
      decide
  · rw [if_pos rfl, Bool.not_true, Bool.false_and]
    decide
def grWhole (ds : List PyData) (r : PyData) : Prop := ∃ s : Snd, ds = [.str s.way.s, s.toldD, .int s.units, .str s.en.s] ∧ r = .bool s.whole
def grRd (ds : List PyData) (r : PyData) : Prop := ∃ s : Snd, ds = [s.d] ∧ r = s.rd
def grTr (ds : List PyData) (r : PyData) : Prop := ∃ s : Snd, ds = [s.d] ∧ r = s.tr
theorem strs_nice : ∀ x ∈ ([("length" : Str), "marks", "close", "mark", "open", "shut", "whole", "cut", "waits", "fooled"]), PyData.strOk x = true ∧ x.length ≤ 6 := by decide +kernel
theorem way_rp (w : Way) : RP (.str w.s) 62 := by cases w <;> exact (RP.str (by decide +kernel)).up (by decide +kernel)
theorem en_rp (e : En) : RP (.str e.s) 62 := by cases e <;> exact (RP.str (by decide +kernel)).up (by decide +kernel)
theorem int_rp {i : Int} (h : 0 ≤ i ∧ i ≤ 1000000000000) : RP (.int i) 101 := RP.int (by omega)
theorem told_rp {s : Snd} (h : s.ok) : RP s.toldD 101 := by
  have h1 := h.t
  have h2 := h.u
  unfold Snd.toldD
  split
  · rename_i e
    have := h1 e
    exact RP.int (by omega)
  · exact RP.none.up (by decide)
theorem snd_shows {s : Snd} (h : s.ok) : Shows s.d := Shows.of (snd_nice s) (RP.tuple (.cons (int_rp h.m) (.cons (way_rp _) (.cons (told_rp h) (.cons (int_rp h.u) (.cons (en_rp _) .nil))))))
theorem word_nice (s : Snd) : PyData.strOk s.word = true ∧ s.word.length ≤ 6 := by
  unfold Snd.word
  split
  · decide +kernel
  · split <;> decide +kernel
theorem word_rp (s : Snd) : RP (.str s.word) 62 := (RP.str (word_nice s).1).up (by have := (word_nice s).2; omega)
theorem rd_nice (s : Snd) {n : Nat} : Nice s.rd (n + 1) := Nice.tuple (.cons (Nice.str (word_nice s).1) (.cons Nice.int .nil))
theorem rd_shows {s : Snd} (h : s.ok) : Shows s.rd := Shows.of (rd_nice s) (RP.tuple (.cons (word_rp s) (.cons (int_rp h.u) .nil)))
theorem tr_nice (s : Snd) {n : Nat} : Nice s.tr (n + 1) := by
  refine Nice.tuple ?_
  split
  · exact .cons (Nice.str (by decide +kernel)) .nil
  · split
    · exact .cons (Nice.str (by decide +kernel)) .nil
    · exact .nil
theorem tr_shows (s : Snd) : Shows s.tr := by
  have h : ∃ n, n ≤ 900 ∧ RP s.tr n := by
    unfold Snd.tr
    split
    · exact ⟨_, by decide, RP.tuple (.cons ((RP.str (by decide +kernel)).up (show _ ≤ 62 by decide +kernel)) .nil)⟩
    · split
      · exact ⟨_, by decide, RP.tuple (.cons ((RP.str (by decide +kernel)).up (show _ ≤ 62 by decide +kernel)) .nil)⟩
      · exact ⟨_, by decide, RP.tuple .nil⟩
  obtain ⟨n, l, r⟩ := h
  exact Shows.of (tr_nice s) (r.up l)
def wEn : Way → En
  | .length => .op
  | .marks => .mark
  | .close => .shut
def Snd.all (m : Int) (w : Way) (b : Int) : Snd := ⟨m, w, b, b, wEn w⟩
theorem all_whole (m : Int) (w : Way) (b : Int) : (Snd.all m w b).whole = true := by cases w <;> simp [Snd.all, Snd.whole, wEn]
def grWs (ds : List PyData) (r : PyData) : Prop := ∃ (m : Int) (w : Way) (b : Int), ds = [.int m, .str w.s, .int b] ∧ r = (Snd.all m w b).d
def grWords (ds : List PyData) (r : PyData) : Prop := ∃ s : Snd, ds = [.int s.meant, s.rd] ∧ r = s.tr
/-! ## relays -/
inductive Ov | stream | trim
  deriving DecidableEq
def Ov.s : Ov → Str
  | .stream => "stream"
  | .trim => "trim"
inductive Stm | same | marks | close
  deriving DecidableEq
def Stm.s : Stm → Str
  | .same => "same"
  | .marks => "marks"
  | .close => "close"
inductive Ct | pass | whole | refuse
  deriving DecidableEq
def Ct.s : Ct → Str
  | .pass => "pass"
  | .whole => "whole"
  | .refuse => "refuse"
inductive Wt | wait | cut
  deriving DecidableEq
def Wt.s : Wt → Str
  | .wait => "wait"
  | .cut => "cut"
inductive Rs | drain | shut | leave
  deriving DecidableEq
def Rs.s : Rs → Str
  | .drain => "drain"
  | .shut => "shut"
  | .leave => "leave"
structure Rl where
  hold : Option Int
  over : Ov
  whole : Way
  stream : Stm
  cut : Ct
  wait : Wt
  limit : Option Int
  rest : Rs
def sizeD : Option Int → PyData
  | none => .none
  | some i => .int i
def Rl.ds (r : Rl) : List PyData := [sizeD r.hold, .str r.over.s, .str r.whole.s, .str r.stream.s, .str r.cut.s, .str r.wait.s, sizeD r.limit, .str r.rest.s]
def Rl.d (r : Rl) : PyData := .tuple r.ds
def Snd.ds (s : Snd) : List PyData := [.int s.meant, .str s.way.s, s.toldD, .int s.units, .str s.en.s]
def sizeOk (o : Option Int) : Prop := ∀ i, o = some i → 0 ≤ i ∧ i ≤ 1000000000000
structure Rl.ok (r : Rl) : Prop where
  h : sizeOk r.hold
  l : sizeOk r.limit
theorem ov_trim (x : Ov) : decide (x.s = "trim") = decide (x = .trim) := by cases x <;> decide
theorem st_same (x : Stm) : decide (x.s = "same") = decide (x = .same) := by cases x <;> decide
theorem ct_pass (x : Ct) : decide (x.s = "pass") = decide (x = .pass) := by cases x <;> decide
theorem ct_whole (x : Ct) : decide (x.s = "whole") = decide (x = .whole) := by cases x <;> decide
theorem ct_nwhole (x : Ct) : (!decide (x.s = "whole")) = !decide (x = .whole) := by cases x <;> decide
theorem wt_cut (x : Wt) : decide (x.s = "cut") = decide (x = .cut) := by cases x <;> decide
theorem rs_drain (x : Rs) : decide (x.s = "drain") = decide (x = .drain) := by cases x <;> decide
theorem rs_leave (x : Rs) : decide (x.s = "leave") = decide (x = .leave) := by cases x <;> decide
theorem en_nshut (e : En) : (!decide (e.s = "shut")) = !decide (e = .shut) := by cases e <;> decide
theorem size_nice (o : Option Int) {n : Nat} : Nice (sizeD o) n := by
  cases o
  · exact Nice.none
  · exact Nice.int
theorem ov_nice (x : Ov) {n : Nat} : Nice (.str x.s) n := Nice.str (by cases x <;> decide +kernel)
theorem st_nice (x : Stm) {n : Nat} : Nice (.str x.s) n := Nice.str (by cases x <;> decide +kernel)
theorem ct_nice (x : Ct) {n : Nat} : Nice (.str x.s) n := Nice.str (by cases x <;> decide +kernel)
theorem wt_nice (x : Wt) {n : Nat} : Nice (.str x.s) n := Nice.str (by cases x <;> decide +kernel)
theorem rs_nice (x : Rs) {n : Nat} : Nice (.str x.s) n := Nice.str (by cases x <;> decide +kernel)
theorem rl_nice (r : Rl) {n : Nat} : Nice r.d (n + 1) := Nice.tuple (.cons (size_nice _) (.cons (ov_nice _) (.cons (way_nice _) (.cons (st_nice _) (.cons (ct_nice _) (.cons (wt_nice _) (.cons (size_nice _) (.cons (rs_nice _) .nil))))))))
theorem ov_rp (w : Ov) : RP (.str w.s) 62 := by cases w <;> exact (RP.str (by decide +kernel)).up (by decide +kernel)
theorem st_rp (w : Stm) : RP (.str w.s) 62 := by cases w <;> exact (RP.str (by decide +kernel)).up (by decide +kernel)
theorem ct_rp (w : Ct) : RP (.str w.s) 62 := by cases w <;> exact (RP.str (by decide +kernel)).up (by decide +kernel)
theorem wt_rp (w : Wt) : RP (.str w.s) 62 := by cases w <;> exact (RP.str (by decide +kernel)).up (by decide +kernel)
theorem rs_rp (w : Rs) : RP (.str w.s) 62 := by cases w <;> exact (RP.str (by decide +kernel)).up (by decide +kernel)
theorem size_rp {o : Option Int} (h : sizeOk o) : RP (sizeD o) 101 := by
  cases o with
  | none => exact RP.none.up (by decide)
  | some i =>
    have := h i rfl
    exact RP.int (by omega)
theorem rl_rp {r : Rl} (h : r.ok) : RP r.d 1000 := (RP.tuple (.cons (size_rp h.h) (.cons (ov_rp _) (.cons (way_rp _) (.cons (st_rp _) (.cons (ct_rp _) (.cons (wt_rp _) (.cons (size_rp h.l) (.cons (rs_rp _) .nil))))))))).up (by decide)
theorem snd_rp {s : Snd} (h : s.ok) : RP s.d 1000 := (RP.tuple (.cons (int_rp h.m) (.cons (way_rp _) (.cons (told_rp h) (.cons (int_rp h.u) (.cons (en_rp _) .nil)))))).up (by decide)
def Snd.waits (s : Snd) : Bool := !s.whole && decide (s.en ≠ .shut)
def Snd.cutB (s : Snd) : Bool := !s.whole && decide (s.en = .shut)
theorem word_cut (s : Snd) : decide (s.word = "cut") = s.cutB := by
  unfold Snd.word Snd.cutB
  cases s.whole
  · rw [if_neg Bool.false_ne_true]
    by_cases h : s.en = .shut
    · rw [if_pos h, h]
      decide
    · rw [if_neg h, decide_eq_false h]
      decide
  · rw [if_pos rfl, Bool.not_true, Bool.false_and]
    decide
theorem word_waits2 (s : Snd) : decide (s.word = "waits") = s.waits := word_waits s
theorem tri (s : Snd) : (s.whole = true ∧ s.cutB = false ∧ s.waits = false) ∨ (s.whole = false ∧ s.cutB = true ∧ s.waits = false) ∨ (s.whole = false ∧ s.cutB = false ∧ s.waits = true) := by
  unfold Snd.cutB Snd.waits
  cases s.whole
  · by_cases h : s.en = .shut
    · exact Or.inr (Or.inl ⟨rfl, by rw [decide_eq_true h]; rfl, by rw [decide_eq_false (fun c => c h)]; rfl⟩)
    · exact Or.inr (Or.inr ⟨rfl, by rw [decide_eq_false h]; rfl, by rw [decide_eq_true h]; rfl⟩)
  · exact Or.inl ⟨rfl, rfl, rfl⟩
def Snd.trW (s : Snd) : List Str := if s.whole = true ∧ s.units ≠ s.meant then [("fooled" : Str)] else if s.whole = false ∧ s.en ≠ .shut then [("waits" : Str)] else []
theorem tr_w (s : Snd) : s.tr = .tuple (s.trW.map .str) := by
  unfold Snd.tr Snd.trW
  split
  · rfl
  · split <;> rfl
theorem trW_no {s : Snd} : s.trW = [] ∨ s.trW = [("fooled" : Str)] ∨ s.trW = [("waits" : Str)] := by
  unfold Snd.trW
  split
  · exact Or.inr (Or.inl rfl)
  · split
    · exact Or.inr (Or.inr rfl)
    · exact Or.inl rfl
def Rl.long (r : Rl) (u : Int) : Bool := match r.hold with
  | none => false
  | some h => decide (u > h)
def Snd.size (c : Snd) : Int := if decide (c.way = .length) = true then c.told else c.units
def Rl.ends (r : Rl) (s : Snd) : Snd := if (decide (r.wait = .cut) && s.waits) = true then ⟨s.meant, s.way, s.told, s.units, .shut⟩ else s
def Rl.refused (r : Rl) (c : Snd) : Bool := match r.limit with
  | none => false
  | some l => decide (c.size > l)
def Rl.lim (r : Rl) : Int := r.limit.getD 0
def Rl.hol (r : Rl) : Int := r.hold.getD 0
def Rl.stWay (r : Rl) (c : Snd) : Way := match r.stream with
  | .same => c.way
  | .marks => .marks
  | .close => .close
def Rl.on (r : Rl) (c : Snd) (u : Int) (e : En) : Snd := ⟨c.meant, r.stWay c, c.told, u, e⟩
def Rl.trim (r : Rl) (c : Snd) : Snd := Snd.all c.meant r.whole r.hol
def Rl.outR (r : Rl) (c : Snd) : Option Snd := if (decide (c.way = .length) || !r.long r.lim) = true then none else if decide (r.over = .trim) = true then some (r.trim c) else some (r.on c r.lim .shut)
def Rl.left (r : Rl) (c : Snd) : Int := if decide (c.way = .length) = true then c.units else c.units - r.lim
def Rl.wordsR (r : Rl) (c : Snd) : List Str := match r.rest with
  | .drain => if c.waits = true then [("waits" : Str)] else []
  | .shut => []
  | .leave => if (decide (r.left c > 0) && !decide (c.en = .shut)) = true then [("spills" : Str)] else []
def Rl.outL (r : Rl) (c : Snd) : Snd := if decide (r.over = .trim) = true then r.trim c else if c.waits = true then r.on c c.units .op else if (c.cutB && !decide (r.cut = .whole)) = true then r.on c c.units .shut else r.on c c.units (wEn (r.stWay c))
def Rl.outA (r : Rl) (c : Snd) : Option Snd := if r.long c.units = true then some (r.outL c) else if (c.whole || (c.cutB && decide (r.cut = .whole))) = true then some (Snd.all c.meant r.whole c.units) else if (c.cutB && decide (r.cut = .pass)) = true then some (r.on c c.units .shut) else none
def outD : Option Snd → PyData
  | none => .none
  | some s => s.d
def wsD (l : List Str) : PyData := .tuple (l.map .str)
def Rl.out (r : Rl) (c : Snd) : Option Snd := if r.refused c = true then r.outR c else r.outA c
def Rl.ws (r : Rl) (c : Snd) : List Str := if r.refused c = true then r.wordsR c else c.trW
def Rl.lost (r : Rl) (c : Snd) : Bool := isNone (outD (r.out c)) && (c.whole && decide (c.units = c.meant))
def Rl.ledW (r : Rl) (s : Snd) : List Str := r.ws (r.ends s) ++ if r.lost (r.ends s) = true then [("lost" : Str)] else []
def Rl.ledO (r : Rl) (s : Snd) : Option Snd := r.out (r.ends s)
def Rl.led (r : Rl) (s : Snd) : PyData := .tuple [outD (r.ledO s), wsD (r.ledW s)]
def grLong (ds : List PyData) (r : PyData) : Prop := ∃ (q : Rl) (u : Int), ds = [q.d, .int u] ∧ r = .bool (q.long u)
def grEnds (ds : List PyData) (r : PyData) : Prop := ∃ (q : Rl) (s : Snd), ds = [q.d, s.d] ∧ r = (q.ends s).d
def grRef (ds : List PyData) (r : PyData) : Prop := ∃ (q : Rl) (s : Snd), ds = [q.d, s.d] ∧ r = .bool (q.refused s)
def grWR (ds : List PyData) (r : PyData) : Prop := ∃ (q : Rl) (s : Snd) (l : Int), ds = [q.d, s.d] ∧ q.limit = some l ∧ r = wsD (q.wordsR s)
def grOR (ds : List PyData) (r : PyData) : Prop := ∃ (q : Rl) (s : Snd) (l : Int), ds = [q.d, s.d] ∧ q.limit = some l ∧ r = outD (q.outR s)
def grOA (ds : List PyData) (r : PyData) : Prop := ∃ (q : Rl) (s : Snd), ds = [q.d, s.d] ∧ r = outD (q.outA s)
def grOL (ds : List PyData) (r : PyData) : Prop := ∃ (q : Rl) (s : Snd) (h : Int), ds = [q.d, s.d] ∧ q.hold = some h ∧ r = (q.outL s).d
def grTrim (ds : List PyData) (r : PyData) : Prop := ∃ (q : Rl) (s : Snd) (h : Int), ds = [q.d, s.d] ∧ q.hold = some h ∧ r = (q.trim s).d
def grWay (ds : List PyData) (r : PyData) : Prop := ∃ (q : Rl) (s : Snd), ds = [q.d, s.d] ∧ r = .str (q.stWay s).s
def grOn (ds : List PyData) (r : PyData) : Prop := ∃ (q : Rl) (s : Snd) (u : Int) (e : En), ds = [q.d, s.d, .int u, .str e.s] ∧ r = (q.on s u e).d
def grLed (ds : List PyData) (r : PyData) : Prop := ∃ (q : Rl) (s : Snd), ds = [q.d, s.d] ∧ r = q.led s
theorem on_told (q : Rl) (c : Snd) (u : Int) (e : En) : (q.on c u e).toldD = if decide (q.stream = .same) = true then c.toldD else .none := by
  obtain ⟨_, _, _, st, _⟩ := q
  cases st <;> rfl
theorem stWay_is (q : Rl) (c : Snd) : (q.stWay c).s = if decide (q.stream = .same) = true then c.way.s else q.stream.s := by
  obtain ⟨_, _, _, st, _⟩ := q
  cases st <;> rfl
def GI (mg : Str → Option Value) (x : Str) (i : Int) : Prop := ∃ t, mg x = some (.int i t)
structure GIs (mg : Str → Option Value) : Prop where
  hold : GI mg "HOLD" 0
  over : GI mg "OVER" 1
  whole : GI mg "WHOLE" 2
  stream : GI mg "STREAM" 3
  cut : GI mg "CUT" 4
  wait : GI mg "WAIT" 5
  limit : GI mg "LIMIT" 6
  rest : GI mg "REST" 7
theorem ev_gi {ι : Type} {F : ι → Cx} {P : Program} {w : World} {K : PySem.W.Frag} {mg : Str → Option Value} {base : Heap} {N : List Str} {k : Nat} {sc : Scope} {W : Wd} {env : List Sl} (fm : Fam P w K mg base N k sc F) {x : Str} {pos : Pos} {i : Int} (h : GI mg x i) (hg : glB sc x = true := by decide +kernel) (hd : (x == ("__debug__" : Str)) = false := by decide) : E1 F W K (.Name x pos) env (.dat (.int i)) :=
  ev_glob fm (v := .int i) h.choose_spec ⟨_, rfl⟩ (fun _ _ => .int _) hg hd
theorem pair_eqv (a b c d : Str) : PyData.eqv (.tuple [.str a, .str b]) (.tuple [.str c, .str d]) = (decide (a = c) && decide (b = d)) := by
  simp only [PyData.eqv, PyData.eqvAll, Bool.and_true]
  rw [Bool.eq_iff_iff]
  simp
theorem paired_filter {p : PyData → Bool} : ∀ {ds : List PyData} {es : List PyData}, Paired (fun i e => ds[i]? = some e) ((List.range ds.length).filter fun i => (ds[i]?.map p).getD false) es → es = ds.filter p := by
  have key : ∀ {is : List Nat} {ds es : List PyData}, Paired (fun i e => ds[i]? = some e) is es → es.map some = is.map fun i => ds[i]? := by
    intro is ds es h
    induction h with
    | nil => rfl
    | cons a _ ih => rw [List.map_cons, List.map_cons, ih, a]
  have flt : ∀ ds : List PyData, ((List.range ds.length).filter fun i => (ds[i]?.map p).getD false).map (fun i => ds[i]?) = (ds.filter p).map some := by
    intro ds
    induction ds with
    | nil => rfl
    | cons d ds ih =>
      rw [List.length_cons, List.range_succ_eq_map, List.filter_cons, List.filter_map]
      have e1 : ((fun i => (((d :: ds) : List PyData)[i]?.map p).getD false) ∘ Nat.succ) = fun i => (ds[i]?.map p).getD false := by
        funext i
        rfl
      rw [e1]
      have e2 : (List.map Nat.succ ((List.range ds.length).filter fun i => (ds[i]?.map p).getD false)).map (fun i => ((d :: ds) : List PyData)[i]?) = ((List.range ds.length).filter fun i => (ds[i]?.map p).getD false).map fun i => ds[i]? := by
        rw [List.map_map]
        rfl
      show List.map _ (if p d = true then _ else _) = _
      rw [List.filter_cons]
      by_cases h : p d = true
      · rw [if_pos h, if_pos h, List.map_cons, List.map_cons, e2, ih]
        rfl
      · rw [if_neg h, if_neg h, e2, ih]
  intro ds es h
  have := (key h).trans (flt ds)
  exact (List.map_inj_right (fun _ _ h => Option.some.inj h)).mp this
def notF : PyData → Bool
  | .str z => !decide (z = "fooled")
  | _ => true
def isIntD : PyData → Bool
  | .int _ => true
  | _ => false
def isCnt : PyData → Bool
  | .int i => decide (0 ≤ i)
  | _ => false
def ways : List Str := ["length", "marks", "close"]
def endsOf (y : Str) : List Str := if y = "marks" then ["mark", "open", "shut"] else ["open", "shut"]
def toldOk (y : Str) (t : PyData) (u : Int) : Bool := if y = "length" then (match t with | .int i => decide (0 ≤ i) && decide (u ≤ i) | _ => false) else isNone t
def isSnd : PyData → Bool
  | .tuple [m, .str y, t, .int u, e] => isCnt m && (strIn (.str y) ways && (decide (0 ≤ u) && (toldOk y t u && strIn e (endsOf y))))
  | _ => false
def len5 : PyData → Bool
  | .tuple ds => decide (ds.length = 5)
  | _ => false
def tup5 (d : PyData) : Bool := isaD "tuple" d && len5 d
theorem isa_int (d : PyData) : (isaD "int" d && !isaD "bool" d) = isIntD d := by cases d <;> rfl
theorem isa_str {d : PyData} (h : isaD "str" d = true) : ∃ z, d = .str z := by cases d <;> first | exact ⟨_, rfl⟩ | (simp [isaD, tyD] at h)
theorem isa_tup {d : PyData} (h : isaD "tuple" d = true) : ∃ ds, d = .tuple ds := by cases d <;> first | exact ⟨_, rfl⟩ | (simp [isaD, tyD] at h)
theorem cnt_int {d : PyData} (h : isCnt d = true) : ∃ i : Int, d = .int i ∧ 0 ≤ i := by cases d <;> first | exact ⟨_, rfl, of_decide_eq_true h⟩ | exact absurd h Bool.false_ne_true
theorem int_int {d : PyData} (h : isIntD d = true) : ∃ i : Int, d = .int i := by cases d <;> first | exact ⟨_, rfl⟩ | exact absurd h Bool.false_ne_true
theorem no_five {d : PyData} (h : tup5 d = false) : isSnd d = false := by
  unfold isSnd
  split
  · exact absurd h (by unfold tup5 len5 isaD tyD; simp)
  · rfl
theorem five {d : PyData} (h : tup5 d = true) : ∃ m y t u e, d = .tuple [m, y, t, u, e] := by
  have h := Bool.and_eq_true_iff.mp h
  obtain ⟨ds, rfl⟩ := isa_tup h.1
  have l : ds.length = 5 := of_decide_eq_true h.2
  match ds, l with
  | [m, y, t, u, e], _ => exact ⟨m, y, t, u, e, rfl⟩
theorem not_or5 (d : PyData) : (!isaD "tuple" d || !len5 d) = !tup5 d := by
  unfold tup5
  rw [Bool.not_and]
theorem strIn_of {y : PyData} {ss : List Str} (h : strIn y ss = true) : ∃ z, y = .str z := by cases y <;> first | exact ⟨_, rfl⟩ | exact absurd h Bool.false_ne_true
theorem ways_in {z : Str} (h : strIn (.str z) ways = true) : ∃ w : Way, z = w.s := by
  have h : (["length", "marks", "close"] : List Str).any (· == z) = true := h
  simp only [List.any_cons, List.any_nil, Bool.or_false, Bool.or_eq_true, beq_iff_eq] at h
  rcases h with h | h | h
  · exact ⟨.length, h.symm⟩
  · exact ⟨.marks, h.symm⟩
  · exact ⟨.close, h.symm⟩
theorem ways_has (w : Way) : strIn (.str w.s) ways = true := by cases w <;> decide
def grInt (ds : List PyData) (r : PyData) : Prop := ∃ d, ds = [d] ∧ r = .bool (isIntD d)
def grCnt (ds : List PyData) (r : PyData) : Prop := ∃ d, ds = [d] ∧ r = .bool (isCnt d)
def grTold (ds : List PyData) (r : PyData) : Prop := ∃ (y : Str) (t : PyData) (u : Int), ds = [.str y, t, .int u] ∧ r = .bool (toldOk y t u)
def grSnd (ds : List PyData) (r : PyData) : Prop := ∃ d, ds = [d] ∧ okD d = true ∧ r = .bool (isSnd d)
-- thing
theorem scInt : FnScope ["thing"] ["thing"] (defScope sIsInt) := ⟨rfl, rfl, rfl, by decide +kernel, rfl, by decide +kernel, by decide +kernel⟩
theorem scCount : FnScope ["thing"] ["thing"] (defScope sIsCount) := ⟨rfl, rfl, rfl, by decide +kernel, rfl, by decide +kernel, by decide +kernel⟩
section
variable {P : Program} {w : World} {K : PySem.W.Frag} {mg : Str → Option Value} {base : Heap} {f : Addr} {fd : FuncData}
theorem ok_isInt (Fu : Fun K "is_integer" "is_integer" sIsInt f fd) (mIsi : mg "isinstance" = none) (mInt : mg "int" = none) (mBool : mg "bool" = none) : FnG P w K mg base 1 f fd ["thing"] (spF K grInt) := by
  refine fn_pure Fu scInt (fun ds r ⟨s, e, _⟩ => by rw [e]; rfl) ?_
  intro cdv A fr s H E W ds r fm ⟨x, e, er⟩
  subst e er
  exact bd_ret1 (E1.is (ev_and2 (ev_isi fm (ev_var fm 0 rfl rfl) mIsi mInt kit_int) (fun _ => ev_not (ev_isi fm (ev_var fm 0 rfl rfl) mIsi mBool kit_bool))) (by rw [isa_int])) rfl

theorem ok_isCount (Fu : Fun K "is_count" "is_count" sIsCount f fd) (oI : Own P w K mg base "is_integer" 1 ["thing"] (spF K grInt)) : FnG P w K mg base 2 f fd ["thing"] (spF K grCnt) := by
  refine fn_pure Fu scCount (fun ds r ⟨s, e, _⟩ => by rw [e]; rfl) ?_
  intro cdv A fr s H E W ds r fm ⟨x, e, er⟩
  subst e er
  refine bd_ret1 (E1.is (ev_and2 (c := isIntD x) (d := isCnt x) (ev_pure fm oI (by decide) (a_cons (ev_var fm 0 rfl rfl) a_nil) (by walk_at "gr")) ?h) ?e) rfl
  case h =>
    intro h
    obtain ⟨i, rfl⟩ := int_int h
    refine E1.is (ev_cmp (ev_var fm 0 rfl rfl) ev_int (by walk_at "cmp")) ?_
    rfl
  case e => cases x <;> rfl
-- way told units

theorem scTold : FnScope ["way", "told", "units"] ["way", "told", "units"] (defScope sTold) := ⟨rfl, rfl, rfl, by decide +kernel, rfl, by decide +kernel, by decide +kernel⟩
theorem ok_told (Fu : Fun K "_told_fits" "_told_fits" sTold f fd) (oC : Own P w K mg base "is_count" 2 ["thing"] (spF K grCnt)) : FnG P w K mg base 3 f fd ["way", "told", "units"] (spF K grTold) := by
  refine fn_pure Fu scTold (fun ds r ⟨_, _, _, e, _⟩ => by rw [e]; rfl) ?_
  intro cdv A fr s H E W ds r fm ⟨y, t, u, e, er⟩
  subst e er
  refine' bd_if1 (et_cmp (ev_var fm 0 rfl rfl) ev_str (by walk_at "cmp")) ?a ?b
  case a =>
    intro h
    have h := of_decide_eq_true h
    subst h
    refine bd_ret1 (E1.is (ev_and2 (c := isCnt t) (d := toldOk "length" t u) (ev_pure fm oC (by decide) (a_cons (ev_var fm 1 rfl rfl) a_nil) (by walk_at "gr")) ?h) ?e) rfl
    case h =>
      intro h
      obtain ⟨i, rfl, h0⟩ := cnt_int h
      refine E1.is (ev_cmp (ev_var fm 2 rfl rfl) (ev_var fm 1 rfl rfl) (by walk_at "cmp")) ?_
      unfold toldOk
      rw [if_pos rfl]
      show Sl.dat (.bool (decide (u ≤ i))) = Sl.dat (.bool (decide (0 ≤ i) && decide (u ≤ i)))
      rw [decide_eq_true h0, Bool.true_and]
    case e =>
      unfold toldOk
      rw [if_pos rfl]
      cases t with
      | int i =>
        show Sl.dat (.bool (decide (0 ≤ i) && (decide (0 ≤ i) && decide (u ≤ i)))) = _
        rw [← Bool.and_assoc, Bool.and_self]
      | _ => rfl
  case b =>
    intro h
    have h := of_decide_eq_false h
    refine bd_nil (bd_ret1 (ev_cmp (ev_var fm 1 rfl rfl) ev_non b_isN) ?_)
    show Sl.dat (.bool (isNone t)) = Sl.dat (.bool (toldOk y t u))
    unfold toldOk
    rw [if_neg h]
-- thing meant way told units end

theorem scIsSnd : FnScope ["thing", "meant", "way", "told", "units", "end"] ["thing"] (defScope sIsSnd) := ⟨rfl, rfl, rfl, by decide +kernel, rfl, by decide +kernel, by decide +kernel⟩
theorem t_five {ι : Type} {F : ι → Cx} {k : Nat} {sc : Scope} {W : Wd} {env : List Sl} {N : List Str} (fm : Fam P w K mg base N k sc F) {x : PyData} {e1 e2 : Expr} {p1 p2 p3 p4 p5 p6 p7 p8 pos : Pos} {j : Nat} (mIsi : mg "isinstance" = none) (mTuple : mg "tuple" = none) (mLen : mg "len" = none)
    (h1 : E1 F W K e1 env (.dat x)) (h2 : E1 F W K e2 env (.dat x)) (g1 : glB sc "isinstance" = true := by decide +kernel) (g2 : glB sc "tuple" = true := by decide +kernel) (g3 : glB sc "len" = true := by decide +kernel) (st : ∀ i, starEach (e1 :: [.Name "tuple" p2]) (F i).env = (false, eval e1 (F i).env) :: starEach [.Name "tuple" p2] (F i).env := by intro _; rfl) (st2 : ∀ i, starEach (e2 :: []) (F i).env = (false, eval e2 (F i).env) :: starEach [] (F i).env := by intro _; rfl) :
    T1 F W K (.BoolOp .Or [.UnaryOp .Not (.Call (.Name "isinstance" p1) [e1, .Name "tuple" p2] [] p3) p4, .Compare (.Call (.Name "len" p5) [e2] [] p6) [.NotEq] [.Constant (.int 5) j p7] p8] pos) env (!tup5 x) := by
  refine T1.is (et_or2 (d := !len5 x) (et_not (et_val (ev_isi fm h1 mIsi mTuple kit_tuple (hg := g1) (hgT := g2) (st := st)))) ?h) (not_or5 x)
  case h =>
    intro h
    obtain ⟨ds, rfl⟩ := isa_tup (by simpa using h)
    refine T1.is (et_cmp (e_lenT fm (a_cons h2 a_nil (st := st2)) mLen (hg := g3) (st := st2)) ev_int b_neI) ?_
    show (!decide ((ds.length : Int) = 5)) = !decide (ds.length = 5)
    congr 2
    exact propext ⟨fun z => by omega, fun z => by omega⟩
theorem ok_isSnd {aW aE : Addr} (Fu : Fun K "is_sending" "is_sending" sIsSnd f fd) (oC : Own P w K mg base "is_count" 2 ["thing"] (spF K grCnt)) (oTo : Own P w K mg base "_told_fits" 3 ["way", "told", "units"] (spF K grTold)) (hs : (base.get? sysModules).isSome = true)
    (gW : mg "WAYS" = some (.ref aW)) (cW : DC K (.ref aW) (.tuple (ways.map .str))) (gE : mg "ENDS_OF" = some (.ref aE)) (cE : ∀ y : Way, ∃ v, KDct K w aE y.s v ∧ DC K v (.tuple ((endsOf y.s).map .str)))
    (mIsi : mg "isinstance" = none) (mTuple : mg "tuple" = none) (mLen : mg "len" = none) : FnG P w K mg base 4 f fd ["thing"] (spF K grSnd) := by
  refine fn_pure Fu scIsSnd (fun ds r ⟨_, e, _⟩ => by rw [e]; rfl) ?_
  intro cdv A fr s H E W ds r fm ⟨x, e, ok, er⟩
  subst e er
  refine' bd_if1 (t_five fm mIsi mTuple mLen (ev_var fm 0 rfl rfl) (ev_var fm 0 rfl rfl)) ?a ?b
  case a =>
    intro h
    refine bd_ret1 ev_bl ?_
    rw [no_five (by simpa using h)]
  case b =>
    intro h
    obtain ⟨m, y, t, u, e, rfl⟩ := five (d := x) (by simpa using h)
    have ok2 := okDAll_iff.mp (show okDAll [m, y, t, u, e] = true from ok)
    refine bd_nil ?_
    refine' bd_asg1 (ev_var fm 0 rfl rfl) (tg_tup fm (tgs_cons (tg_name fm 1 rfl) (tgs_cons (tg_name fm 2 rfl) (tgs_cons (tg_name fm 3 rfl) (tgs_cons (tg_name fm 4 rfl) (tgs_cons (tg_name fm 5 rfl) tgs_nil))))) 5 rfl) ?_
    refine' bd_if1 (et_or3 (c := !isCnt m) (d := !strIn y ways) (e := !isCnt u) (et_not (et_val (ev_pure fm oC (by decide) (a_cons (ev_var fm 1 rfl rfl) a_nil) (by walk_at "gr")))) (fun _ => et_cmp (ev_var fm 2 rfl rfl) (ev_glob fm (v := .ref aW) gW rfl cW) (b_notInSt fm hs (ok2 y (by simp)))) (fun _ _ => et_not (et_val (ev_pure fm oC (by decide) (a_cons (ev_var fm 4 rfl rfl) a_nil) (by walk_at "gr"))))) ?c ?d
    case c =>
      intro h
      refine bd_ret1 ev_bl ?_
      show Sl.dat (.bool false) = Sl.dat (.bool (isSnd _))
      congr 2
      unfold isSnd
      split
      · rename_i m' y' t' u' e' q
        cases q
        have h : (!isCnt m || (!strIn (.str y') ways || !decide (0 ≤ u'))) = true := h
        cases h1 : isCnt m
        · rfl
        · cases h2 : strIn (.str y') ways
          · rfl
          · cases h3 : decide (0 ≤ u')
            · rfl
            · rw [h1, h2, h3] at h
              exact absurd h (by decide)
      · rfl
    case d =>
      intro h
      have h : (isCnt m = true) ∧ (strIn y ways = true) ∧ isCnt u = true := by simpa using h
      obtain ⟨z, rfl⟩ := strIn_of h.2.1
      obtain ⟨wy, rfl⟩ := ways_in h.2.1
      obtain ⟨ui, rfl, u0⟩ := cnt_int h.2.2
      obtain ⟨v, kd, dc⟩ := cE wy
      refine bd_nil ?_
      refine bd_ret1 (ev_and2 (c := toldOk wy.s t ui) (d := strIn e (endsOf wy.s)) (ev_pure fm oTo (by decide) (a_cons (ev_var fm 2 rfl rfl) (a_cons (ev_var fm 3 rfl rfl) (a_cons (ev_var fm 4 rfl rfl) a_nil))) ⟨_, _, _, rfl, rfl⟩) (fun _ => ev_cmp (ev_var fm 5 rfl rfl) (ev_ixKD fm (ev_globR fm (v := .ref aE) gE rfl) (ev_var fm 2 rfl rfl) kd dc) (b_inSt fm hs (ok2 e (by simp))))) ?_
      show Sl.dat (.bool _) = Sl.dat (.bool (isCnt m && (strIn (.str wy.s) ways && (decide (0 ≤ ui) && (toldOk wy.s t ui && strIn e (endsOf wy.s))))))
      rw [h.1, h.2.1, decide_eq_true u0, Bool.true_and, Bool.true_and, Bool.true_and]
end
def isSize (d : PyData) : Bool := isNone d || isCnt d
def overs : List Str := ["stream", "trim"]
def streams : List Str := ["same", "marks", "close"]
def cuts : List Str := ["pass", "whole", "refuse"]
def waitsL : List Str := ["wait", "cut"]
def rests : List Str := ["drain", "shut", "leave"]
def isRel : PyData → Bool
  | .tuple [h, o, wh, st, ct, wt, l, rs] => isSize h && (isSize l && (strIn o overs && (strIn wh ways && (strIn st streams && (strIn ct cuts && (strIn wt waitsL && strIn rs rests))))))
  | _ => false
def len8 : PyData → Bool
  | .tuple ds => decide (ds.length = 8)
  | _ => false
def tup8 (d : PyData) : Bool := isaD "tuple" d && len8 d
theorem no_eight {d : PyData} (h : tup8 d = false) : isRel d = false := by
  unfold isRel
  split
  · exact absurd h (by unfold tup8 len8 isaD tyD; simp)
  · rfl
theorem eight {d : PyData} (h : tup8 d = true) : ∃ a b c e f g i j, d = .tuple [a, b, c, e, f, g, i, j] := by
  have h := Bool.and_eq_true_iff.mp h
  obtain ⟨ds, rfl⟩ := isa_tup h.1
  have l : ds.length = 8 := of_decide_eq_true h.2
  match ds, l with
  | [a, b, c, e, f, g, i, j], _ => exact ⟨a, b, c, e, f, g, i, j, rfl⟩
theorem not_or8 (d : PyData) : (!isaD "tuple" d || !len8 d) = !tup8 d := by
  unfold tup8
  rw [Bool.not_and]
def MG (mg : Str → Option Value) (K : PySem.W.Frag) (x : Str) (ss : List Str) : Prop := ∃ a : Addr, mg x = some (.ref a) ∧ DC K (.ref a) (.tuple (ss.map .str))
structure MGs (mg : Str → Option Value) (K : PySem.W.Frag) : Prop where
  over : MG mg K "OVERS" overs
  way : MG mg K "WAYS" ways
  stream : MG mg K "STREAMS" streams
  cut : MG mg K "CUTS" cuts
  wait : MG mg K "WAITS" waitsL
  rest : MG mg K "RESTS" rests
def grSize (ds : List PyData) (r : PyData) : Prop := ∃ d, ds = [d] ∧ r = .bool (isSize d)
def grRel (ds : List PyData) (r : PyData) : Prop := ∃ d, ds = [d] ∧ okD d = true ∧ r = .bool (isRel d)
theorem size_isSize {o : Option Int} (h : sizeOk o) : isSize (sizeD o) = true := by
  cases o with
  | none => rfl
  | some i =>
    show (false || decide (0 ≤ i)) = true
    rw [decide_eq_true (h i rfl).1, Bool.or_true]
theorem rl_isRel {q : Rl} (h : q.ok) : isRel q.d = true := by
  obtain ⟨hold, ov, wh, st, ct, wt, li, rs⟩ := q
  show (isSize (sizeD hold) && (isSize (sizeD li) && (strIn (.str ov.s) overs && (strIn (.str wh.s) ways && (strIn (.str st.s) streams && (strIn (.str ct.s) cuts && (strIn (.str wt.s) waitsL && strIn (.str rs.s) rests))))))) = true
  rw [size_isSize h.h, size_isSize h.l, show strIn (.str ov.s) overs = true by cases ov <;> decide, ways_has, show strIn (.str st.s) streams = true by cases st <;> decide, show strIn (.str ct.s) cuts = true by cases ct <;> decide, show strIn (.str wt.s) waitsL = true by cases wt <;> decide, show strIn (.str rs.s) rests = true by cases rs <;> decide]
  rfl
theorem size_okD {o : Option Int} : okD (sizeD o) = true := by cases o <;> rfl
theorem rl_okD (q : Rl) : okD q.d = true := okDAll_iff.mpr (by
  intro x hx
  simp only [Rl.ds, List.mem_cons, List.not_mem_nil, or_false] at hx
  rcases hx with rfl | rfl | rfl | rfl | rfl | rfl | rfl | rfl <;> first | rfl | exact size_okD)
-- thing


theorem scIsSize : FnScope ["thing"] ["thing"] (defScope sIsSize) := ⟨rfl, rfl, rfl, by decide +kernel, rfl, by decide +kernel, by decide +kernel⟩
section
variable {P : Program} {w : World} {K : PySem.W.Frag} {mg : Str → Option Value} {base : Heap} {f : Addr} {fd : FuncData}
theorem ok_isSize (Fu : Fun K "_is_size" "_is_size" sIsSize f fd) (oC : Own P w K mg base "is_count" 2 ["thing"] (spF K grCnt)) : FnG P w K mg base 3 f fd ["thing"] (spF K grSize) := by
  refine fn_pure Fu scIsSize (fun ds r ⟨s, e, _⟩ => by rw [e]; rfl) ?_
  intro cdv A fr s H E W ds r fm ⟨x, e, er⟩
  subst e er
  exact bd_ret1 (ev_or2 (c := isNone x) (d := isCnt x) (ev_cmp (ev_var fm 0 rfl rfl) ev_non (by walk_at "cmp")) (fun _ => (ev_pure fm oC (by decide) (a_cons (ev_var fm 0 rfl rfl) a_nil) (by walk_at "gr")))) rfl
theorem t_eight {ι : Type} {F : ι → Cx} {k : Nat} {sc : Scope} {W : Wd} {env : List Sl} {N : List Str} (fm : Fam P w K mg base N k sc F) {x : PyData} {e1 e2 : Expr} {p1 p2 p3 p4 p5 p6 p7 p8 pos : Pos} {j : Nat} (mIsi : mg "isinstance" = none) (mTuple : mg "tuple" = none) (mLen : mg "len" = none)
    (h1 : E1 F W K e1 env (.dat x)) (h2 : E1 F W K e2 env (.dat x)) (g1 : glB sc "isinstance" = true := by decide +kernel) (g2 : glB sc "tuple" = true := by decide +kernel) (g3 : glB sc "len" = true := by decide +kernel) (st : ∀ i, starEach (e1 :: [.Name "tuple" p2]) (F i).env = (false, eval e1 (F i).env) :: starEach [.Name "tuple" p2] (F i).env := by intro _; rfl) (st2 : ∀ i, starEach (e2 :: []) (F i).env = (false, eval e2 (F i).env) :: starEach [] (F i).env := by intro _; rfl) :
    T1 F W K (.BoolOp .Or [.UnaryOp .Not (.Call (.Name "isinstance" p1) [e1, .Name "tuple" p2] [] p3) p4, .Compare (.Call (.Name "len" p5) [e2] [] p6) [.NotEq] [.Constant (.int 8) j p7] p8] pos) env (!tup8 x) := by
  refine T1.is (et_or2 (d := !len8 x) (et_not (et_val (ev_isi fm h1 mIsi mTuple kit_tuple (hg := g1) (hgT := g2) (st := st)))) ?h) (not_or8 x)
  case h =>
    intro h
    obtain ⟨ds, rfl⟩ := isa_tup (by simpa using h)
    refine T1.is (et_cmp (e_lenT fm (a_cons h2 a_nil (st := st2)) mLen (hg := g3) (st := st2)) ev_int b_neI) ?_
    show (!decide ((ds.length : Int) = 8)) = !decide (ds.length = 8)
    congr 2
    exact propext ⟨fun z => by omega, fun z => by omega⟩
theorem ev_mg {ι : Type} {F : ι → Cx} {k : Nat} {sc : Scope} {W : Wd} {env : List Sl} {N : List Str} (fm : Fam P w K mg base N k sc F) {x : Str} {pos : Pos} {ss : List Str} (h : MG mg K x ss) (hg : glB sc x = true := by decide +kernel) (hd : (x == ("__debug__" : Str)) = false := by decide) : E1 F W K (.Name x pos) env (.dat (.tuple (ss.map .str))) :=
  ev_glob fm (v := .ref h.choose) h.choose_spec.1 rfl h.choose_spec.2 hg hd
-- thing hold over whole stream cut wait limit rest

theorem scIsRel : FnScope ["thing", "hold", "over", "whole", "stream", "cut", "wait", "limit", "rest"] ["thing"] (defScope sIsRel) := ⟨rfl, rfl, rfl, by decide +kernel, rfl, by decide +kernel, by decide +kernel⟩
theorem ok_isRel (Fu : Fun K "is_relay" "is_relay" sIsRel f fd) (oZ : Own P w K mg base "_is_size" 3 ["thing"] (spF K grSize)) (hs : (base.get? sysModules).isSome = true) (gm : MGs mg K)
    (mIsi : mg "isinstance" = none) (mTuple : mg "tuple" = none) (mLen : mg "len" = none) : FnG P w K mg base 4 f fd ["thing"] (spF K grRel) := by
  refine fn_pure Fu scIsRel (fun ds r ⟨_, e, _⟩ => by rw [e]; rfl) ?_
  intro cdv A fr s H E W ds r fm ⟨x, e, ok, er⟩
  subst e er
  refine' bd_if1 (t_eight fm mIsi mTuple mLen (ev_var fm 0 rfl rfl) (ev_var fm 0 rfl rfl)) ?a ?b
  case a =>
    intro h
    refine bd_ret1 ev_bl ?_
    rw [no_eight (by simpa using h)]
  case b =>
    intro h
    obtain ⟨hd, o, wh, st, ct, wt, l, rs, rfl⟩ := eight (d := x) (by simpa using h)
    have ok2 := okDAll_iff.mp (show okDAll [hd, o, wh, st, ct, wt, l, rs] = true from ok)
    refine bd_nil ?_
    refine' bd_asg1 (ev_var fm 0 rfl rfl) (tg_tup fm (tgs_cons (tg_name fm 1 rfl) (tgs_cons (tg_name fm 2 rfl) (tgs_cons (tg_name fm 3 rfl) (tgs_cons (tg_name fm 4 rfl) (tgs_cons (tg_name fm 5 rfl) (tgs_cons (tg_name fm 6 rfl) (tgs_cons (tg_name fm 7 rfl) (tgs_cons (tg_name fm 8 rfl) tgs_nil)))))))) 8 rfl) ?_
    refine' bd_if1 (t := !isSize hd || !isSize l) (et_or2 (et_not (et_val (ev_pure fm oZ (by decide) (a_cons (ev_var fm 1 rfl rfl) a_nil) ⟨_, rfl, rfl⟩))) (fun _ => et_not (et_val (ev_pure fm oZ (by decide) (a_cons (ev_var fm 7 rfl rfl) a_nil) ⟨_, rfl, rfl⟩)))) ?c ?d
    case c =>
      intro h
      refine bd_ret1 ev_bl ?_
      show Sl.dat (.bool false) = Sl.dat (.bool (isSize hd && (isSize l && _)))
      cases h1 : isSize hd
      · rfl
      · cases h2 : isSize l
        · rfl
        · rw [h1, h2] at h
          exact absurd h (by decide)
    case d =>
      intro h
      have h : isSize hd = true ∧ isSize l = true := by simpa using h
      refine bd_nil ?_
      refine bd_ret1 (ev_andS (ev_cmp (ev_var fm 2 rfl rfl) (ev_mg fm gm.over) (b_inSt fm hs (ok2 o (by simp)))) fun _ => ev_andS (ev_cmp (ev_var fm 3 rfl rfl) (ev_mg fm gm.way) (b_inSt fm hs (ok2 wh (by simp)))) fun _ => ev_andS (ev_cmp (ev_var fm 4 rfl rfl) (ev_mg fm gm.stream) (b_inSt fm hs (ok2 st (by simp)))) fun _ => ev_andS (ev_cmp (ev_var fm 5 rfl rfl) (ev_mg fm gm.cut) (b_inSt fm hs (ok2 ct (by simp)))) fun _ => ev_andS (ev_cmp (ev_var fm 6 rfl rfl) (ev_mg fm gm.wait) (b_inSt fm hs (ok2 wt (by simp)))) fun _ => ev_and1 (ev_cmp (ev_var fm 8 rfl rfl) (ev_mg fm gm.rest) (b_inSt fm hs (ok2 rs (by simp))))) ?_
      show Sl.dat (.bool _) = Sl.dat (.bool (isSize hd && (isSize l && _)))
      rw [h.1, h.2, Bool.true_and, Bool.true_and]
end
/-! ## drawn relays -/
def PreRel (ds : List PyData) : Prop := ∃ xs : List Int, ds = [.list (xs.map .int)] ∧ xs.length ≤ 900000 ∧ ∀ x ∈ xs, 0 ≤ x ∧ x ≤ 1000000000000
def RnRel (_ : List PyData) (r : PyData) : Prop := ∃ q : Rl, q.ok ∧ r = q.d
def menus4 : List PyData := [.list [.str "stream", .str "trim"], .list [.str "length", .str "marks", .str "close"], .list [.str "same", .str "marks", .str "close"], .list [.str "pass", .str "whole", .str "refuse"]]
def menus5 : List PyData := menus4 ++ [.list [.str "wait", .str "cut"]]
theorem menus_at {i : Nat} {d : PyData} (h : menus5[i]? = some d) : ∃ xs : List PyData, d = .list xs ∧ 0 < xs.length ∧ xs.length ≤ 1000000 := by
  match i, h with
  | 0, h => exact ⟨_, (Option.some.inj h).symm, by decide, by decide⟩
  | 1, h => exact ⟨_, (Option.some.inj h).symm, by decide, by decide⟩
  | 2, h => exact ⟨_, (Option.some.inj h).symm, by decide, by decide⟩
  | 3, h => exact ⟨_, (Option.some.inj h).symm, by decide, by decide⟩
  | 4, h => exact ⟨_, (Option.some.inj h).symm, by decide, by decide⟩
theorem paired5 {R : Nat → PyData → Prop} {es : List PyData} (h : Paired (fun i e => R i e) ((List.range 5).filter fun _ => true) es) : ∃ a b c d e, es = [a, b, c, d, e] ∧ R 0 a ∧ R 1 b ∧ R 2 c ∧ R 3 d ∧ R 4 e := by
  have h' : Paired (fun i e => R i e) [0, 1, 2, 3, 4] es := h
  match es, h' with
  | [a, b, c, d, e], .cons x (.cons y (.cons z (.cons u (.cons v .nil)))) => exact ⟨a, b, c, d, e, rfl, x, y, z, u, v⟩
def RnMid (es : List PyData) : Prop := ∃ (ov : Ov) (wh : Way) (st : Stm) (ct : Ct) (wt : Wt), es = [.str ov.s, .str wh.s, .str st.s, .str ct.s, .str wt.s]
theorem mid_of {es : List PyData} (h : Paired (fun i e => ∃ xs, menus5[i]? = some (.list xs) ∧ e ∈ xs) ((List.range 5).filter fun _ => true) es) : RnMid es := by
  obtain ⟨a, b, c, d, e, rfl, ⟨xa, ha, ia⟩, ⟨xb, hb, ib⟩, ⟨xc, hc, ic⟩, ⟨xd, hd, id⟩, ⟨xe, he, ie⟩⟩ := paired5 h
  cases ha; cases hb; cases hc; cases hd; cases he
  simp only [List.mem_cons, List.not_mem_nil, or_false] at ia ib ic id ie
  have ha : ∃ x : Ov, a = .str x.s := ia.elim (fun h => ⟨.stream, h⟩) fun h => ⟨.trim, h⟩
  have hb : ∃ x : Way, b = .str x.s := ib.elim (fun h => ⟨.length, h⟩) fun h => h.elim (fun h => ⟨.marks, h⟩) fun h => ⟨.close, h⟩
  have hc : ∃ x : Stm, c = .str x.s := ic.elim (fun h => ⟨.same, h⟩) fun h => h.elim (fun h => ⟨.marks, h⟩) fun h => ⟨.close, h⟩
  have hd : ∃ x : Ct, d = .str x.s := id.elim (fun h => ⟨.pass, h⟩) fun h => h.elim (fun h => ⟨.whole, h⟩) fun h => ⟨.refuse, h⟩
  have he : ∃ x : Wt, e = .str x.s := ie.elim (fun h => ⟨.wait, h⟩) fun h => ⟨.cut, h⟩
  obtain ⟨ov, rfl⟩ := ha
  obtain ⟨wh, rfl⟩ := hb
  obtain ⟨st, rfl⟩ := hc
  obtain ⟨ct, rfl⟩ := hd
  obtain ⟨wt, rfl⟩ := he
  exact ⟨ov, wh, st, ct, wt, rfl⟩
theorem pick_size {xs : List Int} (h : ∀ x ∈ xs, 0 ≤ x ∧ x ≤ 1000000000000) {ns : List PyData} (hn : ∀ d ∈ ns, d = .none) {r : PyData} (hr : r ∈ ns ++ xs.map .int) : ∃ o : Option Int, sizeOk o ∧ r = sizeD o := by
  rcases List.mem_append.mp hr with hr | hr
  · exact ⟨none, (fun i e => nomatch e), hn r hr⟩
  · obtain ⟨x, hx, rfl⟩ := List.mem_map.mp hr
    exact ⟨some x, (fun i e => by cases e; exact h x hx), rfl⟩
-- pot some menus middle last menu



theorem scSomeRel : FnScope ["pot", "some", "menus", "middle", "last", "menu"] ["pot", "some"] (defScope sSomeRel) := ⟨rfl, rfl, rfl, by decide +kernel, rfl, by decide +kernel, by decide +kernel⟩
section
variable {P : Program} {w : World} {K : PySem.W.Frag} {mg : Str → Option Value} {base : Heap} {f : Addr} {fd : FuncData}
theorem ok_somerel (Fu : Fun K "_law_some_relay" "_law_some_relay" sSomeRel f fd) (oP : Own P w K mg base "_law_pick" 3 ["pot", "items"] (spD K PreP RnP)) (mTuple : mg "tuple" = none) : FnG P w K mg base 4 f fd ["pot", "some"] (spD K PreRel RnRel) := by
  refine fn_draw Fu scSomeRel (fun ds ⟨n, e, _⟩ => by rw [e]; rfl) ?_
  intro cdv A fr s H E W p c ns ds fm dw ⟨xs, e, n1, hx⟩
  subst e
  refine' bd_set1 fm 2 rfl (r := .dat (.list menus4)) (ev_lst (a_cons (ev_lst (a_cons ev_str (a_cons ev_str a_nil))) (a_cons (ev_lst (a_cons ev_str (a_cons ev_str (a_cons ev_str a_nil)))) (a_cons (ev_lst (a_cons ev_str (a_cons ev_str (a_cons ev_str a_nil)))) (a_cons (ev_lst (a_cons ev_str (a_cons ev_str (a_cons ev_str a_nil)))) a_nil))))) ?_
  refine' bd_lc fm (ds := menus5) (f := fun _ => true) (R := fun i e => ∃ xs, menus5[i]? = some (.list xs) ∧ e ∈ xs) 3 5 rfl rfl (by decide +kernel) (ev_op (ev_var fm 2 rfl rfl) (ev_lst (a_cons (ev_lst (a_cons ev_str (a_cons ev_str a_nil))) a_nil)) (b_cat (sz_small (by decide)))) (fun _ _ _ _ _ _ _ => if_nil) ?he (sz_small (by decide)) ?hm
  case he =>
    intro i d D acc hd _ nD fm
    obtain ⟨ys, rfl, l0, l1⟩ := menus_at hd
    exact Ev.imp (ev_draw fm (dw.plus nD) oP (by decide) (r_cons (ev_raw fm 0 rfl rfl) (a_cons (ev_var fm 5 rfl rfl) a_nil)) ⟨_, rfl, l0, l1⟩) fun r ⟨e, e1, e2⟩ => ⟨e, e1, ys, hd, e2 _ rfl⟩
  intro es pr
  obtain ⟨ov, wh, st, ct, wt, rfl⟩ := mid_of pr
  have lx : (xs.map PyData.int).length = xs.length := List.length_map ..
  refine' bd_set fm 4 rfl (ev_lstN (R := fun s => ∃ (o : Option Int) (rs : Rs), sizeOk o ∧ s = .dat (.list [sizeD o, .str rs.s])) (ea_cons (ev_draw fm dw oP (by decide) (r_cons (ev_raw fm 0 rfl rfl) (a_cons (ev_op (ev_lst (a_cons ev_non (a_cons ev_non a_nil))) (ev_var fm 1 rfl rfl) (b_cat ?z1)) a_nil)) ⟨_, rfl, ?z2, ?z3⟩) (ea_cons (ev_draw fm dw oP (by decide) (r_cons (ev_raw fm 0 rfl rfl) (a_cons (ev_lst (a_cons ev_str (a_cons ev_str (a_cons ev_str a_nil)))) a_nil)) ⟨_, rfl, by show 0 < 3; decide, by show 3 ≤ 1000000; decide⟩) ea_nil)) ?hl) ?_
  case z1 => exact sz_small (by show 2 + (xs.map PyData.int).length ≤ _; omega)
  case z2 => rw [List.length_append]; show 0 < 2 + _; omega
  case z3 => rw [List.length_append]; show 2 + _ ≤ _; omega
  case hl =>
    rintro rs ⟨_, _, rfl, ⟨r1, rfl, h1⟩, _, _, rfl, ⟨r2, rfl, h2⟩, rfl⟩
    obtain ⟨o, ho, rfl⟩ := pick_size hx (ns := [.none, .none]) (by intro d hd; simpa using hd) (h1 _ rfl)
    have h2 := h2 _ rfl
    simp only [List.mem_cons, List.not_mem_nil, or_false] at h2
    have h2 : ∃ x : Rs, r2 = .str x.s := h2.elim (fun h => ⟨.drain, h⟩) fun h => h.elim (fun h => ⟨.shut, h⟩) fun h => ⟨.leave, h⟩
    obtain ⟨rs, rfl⟩ := h2
    exact ⟨[sizeD o, .str rs.s], rfl, by show 2 ≤ 1000000; decide, o, rs, ho, rfl⟩
  rintro _ ⟨o, rs, ho, rfl⟩
  refine bd_ret (e_tupN (R := fun ds => ∃ h : Option Int, sizeOk h ∧ ds = Rl.ds ⟨h, ov, wh, st, ct, wt, o, rs⟩) fm (ev_opN (Ra := fun s => ∃ h : Option Int, sizeOk h ∧ s = .dat (.list [sizeD h, .str ov.s, .str wh.s, .str st.s, .str ct.s, .str wt.s])) (ev_opN (Ra := fun s => ∃ h : Option Int, sizeOk h ∧ s = .dat (.list [sizeD h])) (ev_lstN (ea_cons (ev_draw fm dw oP (by decide) (r_cons (ev_raw fm 0 rfl rfl) (a_cons (ev_op (ev_lst (a_cons ev_non a_nil)) (ev_var fm 1 rfl rfl) (b_cat ?z1)) a_nil)) ⟨_, rfl, ?z2, ?z3⟩) ea_nil) ?hl) (ev_var fm 3 rfl rfl) ?o1) (ev_var fm 4 rfl rfl) ?o2) mTuple) ?fin
  case z1 => exact sz_small (by show 1 + (xs.map PyData.int).length ≤ _; omega)
  case z2 => rw [List.length_append]; show 0 < 1 + _; omega
  case z3 => rw [List.length_append]; show 1 + _ ≤ _; omega
  case hl =>
    rintro rs ⟨_, _, rfl, ⟨r1, rfl, h1⟩, rfl⟩
    obtain ⟨h, hh, rfl⟩ := pick_size hx (ns := [.none]) (by intro d hd; simpa using hd) (h1 _ rfl)
    exact ⟨[sizeD h], rfl, by show 1 ≤ 1000000; decide, h, hh, rfl⟩
  case o1 =>
    rintro x y ⟨h, hh, rfl⟩ rfl
    exact ⟨_, _, rfl, rfl, Bin.some (b_cat (sz_small (by show 1 + 5 ≤ _; decide))) ⟨h, hh, rfl⟩⟩
  case o2 =>
    rintro x y ⟨h, hh, rfl⟩ rfl
    exact ⟨_, _, rfl, rfl, Bin.some (b_cat (sz_small (by show 6 + 2 ≤ _; decide))) ⟨_, rfl, h, hh, rfl⟩⟩
  case fin =>
    rintro r ⟨_, rfl, h, hh, rfl⟩
    exact ⟨_, rfl, ⟨h, ov, wh, st, ct, wt, o, rs⟩, ⟨hh, ho⟩, rfl⟩
end
theorem scPotOf : FnScope ["script", "cells", "cell", "place"] ["script"] (defScope sPotOf) := ⟨rfl, rfl, rfl, by decide +kernel, rfl, by decide +kernel, by decide +kernel⟩
theorem ints_set (ms : List Int) (j : Nat) (n : Int) : (ms.map V.int).set j (.int n) = (ms.set j n).map V.int := by rw [List.map_set]
section
variable {P : Program} {w : World} {K : PySem.W.Frag} {mg : Str → Option Value} {base : Heap} {f : Addr} {fd : FuncData}
theorem ok_potOf (Fu : Fun K "_law_pot_of" "_law_pot_of" sPotOf f fd) (mAbs : mg "abs" = none) (mEnum : mg "enumerate" = none) : FnG P w K mg base 1 f fd ["script"] (spPot K) := by
  refine fn_raw Fu scPotOf (fun vs H Q E ⟨a, ns, e, _⟩ => by rw [e]; rfl) fun cdv A fr s H vs Q E g hr hsp => ?_
  obtain ⟨a, ns, rfl, hS, hl, q⟩ := hsp
  refine ⟨_, pss_cons (ps_setLc (own := [("cell", 2)]) (g := gName 2) (tt := tYes) (i := 1) rfl scPotOf.nd rfl (lcl_of (sc := defScope sPotOf) rfl (by decide +kernel)) (sw_true rfl (lcl_of (sc := defScope sPotOf) rfl (by decide +kernel)) rfl (by decide +kernel))
        (pi_list (pe_slice sl_list (pe_var (i := 0) rfl (vis_of (sc := defScope sPotOf) rfl (by decide +kernel))) po_none (po_some pe_int))) (blkOk_by (N := ["script", "cells", "cell", "place"]) (sc := defScope sPotOf) (by decide +kernel)) (fun _ _ _ _ _ => pg_name (i := 2) scPotOf.nd rfl (Or.inl rfl)) (fun _ _ _ _ _ => pts_nil)
        (fun _ _ _ _ _ => pe_callB call_abs (by rfl) mAbs (by decide +kernel) (pa_cons (pv 2) pa_nil)))
    (pss_cons (ps_for PassesOwn.never rfl (pi_enum (gl_of (sc := defScope sPotOf) rfl (by decide +kernel)) mEnum (pa_cons (pe_slice sl_list (pe_var (i := 0) rfl (vis_of (sc := defScope sPotOf) rfl (by decide +kernel))) (po_some pe_int) (po_some pe_int)) pa_nil))
        (pg_tup rfl (pgs_cons (pg_name (i := 3) scPotOf.nd rfl (loc_of (sc := defScope sPotOf) rfl (by decide +kernel))) (pgs_cons (pg_name (i := 2) scPotOf.nd rfl (loc_of (sc := defScope sPotOf) rfl (by decide +kernel))) pgs_nil)))
        (pss_one (ps_asg (pe_op op_add (pe_ix ix_list (pe_var (i := 1) rfl (vis_of (sc := defScope sPotOf) rfl (by decide +kernel))) (pe_op op_mod (pe_var (i := 3) rfl (vis_of (sc := defScope sPotOf) rfl (by decide +kernel))) pe_int) (fun _ _ => rfl)) (pe_callB call_abs (gl_of (sc := defScope sPotOf) rfl (by decide +kernel)) mAbs (by decide +kernel) (pa_cons (pe_var (i := 2) rfl (vis_of (sc := defScope sPotOf) rfl (by decide +kernel))) pa_nil)))
          (pg_sub (pe_var (i := 1) rfl (vis_of (sc := defScope sPotOf) rfl (by decide +kernel))) (pe_op op_mod (pe_var (i := 3) rfl (vis_of (sc := defScope sPotOf) rfl (by decide +kernel))) pe_int) set_list))))
    (pss_one (ps_ret (pe_lst (pa_cons (pe_var (i := 1) rfl (vis_of (sc := defScope sPotOf) rfl (by decide +kernel))) (pa_cons pe_int (pa_cons pe_int (pa_cons pe_int pa_nil)))))))), ?_⟩
  -- cells = [abs(cell) for cell in script[:17]]
  refine ⟨.ref a, rfl, 17, rfl, a, ns.map V.int, rfl, hS, fun c0 n0 => ?_⟩
  have x0 : Xt H (upd H c0 (.lst (cutV (ns.map V.int) none (some 17)))) := Xt.new n0
  refine ⟨c0, rfl, ⟨_, SqL.of upd_same⟩, fun D nD => ?_⟩
  have nDH : H D = none := by
    cases hq : H D with
    | none => rfl
    | some o => rw [x0 D o hq] at nD; cases nD
  have e17 : cutV (ns.map V.int) none (some 17) = (ns.take 17).map V.int := cut_to ns 17
  refine lc_list (K := K) (a := c0) (xs := (ns.take 17).map V.int) (fun i H' => ∃ ms : List Int, ms.length = i ∧ H' D = some (.lst (ms.map V.int)) ∧ Xt (upd H c0 (.lst (cutV (ns.map V.int) none (some 17)))) H') ?_ ?_ ?_ ?_
  · exact ⟨[], rfl, upd_same, Xt.new nD⟩
  · intro i H' _ ⟨ms, _, _, x⟩
    refine SqL.of (x _ _ ?_)
    rw [upd_same, e17]
  · intro i v H' hv ⟨ms, el, ed, x⟩
    rw [List.getElem?_map] at hv
    obtain ⟨z, hz, rfl⟩ := Option.map_eq_some_iff.mp hv
    refine ⟨wipe_set 2, ?_⟩
    have hi : i < 17 := by
      have := (List.getElem?_eq_some_iff.mp hz).1
      rw [List.length_take] at this
      omega
    refine ⟨.int z, rfl, z, rfl, ms.map V.int, ed, by rw [List.length_map]; exact small1000 (by omega), ms ++ [if z < 0 then -z else z], by rw [List.length_append, List.length_singleton, el], by rw [upd_same, List.map_append] <;> rfl, fun b o h => ?_⟩
    rw [upd_ne (ne_of_none h nD)]
    exact x b o h
  · intro H1 ⟨ms, el, ed, x1⟩
    have xx1 : Xt H H1 := x0.trans x1
    -- the loop
    refine ⟨.ref a, rfl, 17, rfl, 60, rfl, a, ns.map V.int, rfl, Same.seq xx1 hS, fun e1 ne1 => ?_⟩
    have ne1D : D ≠ e1 := ne_of_none ed ne1
    obtain ⟨zs, ez⟩ := cut_in ns (some 17) (some 60)
    refine ⟨e1, zs.map V.int, rfl, SqL.of (by rw [upd_same, ez]), ?_⟩
    refine for_it (walk_enum (K := K) (a := e1) (xs := zs.map V.int)) (fun i σ' H' => ∃ (ms : List Int) (y2 y3 : Option V), σ' = [some (.ref a), some (.ref D), y2, y3] ∧ H' D = some (.lst (ms.map V.int)) ∧ (zs ≠ [] → ms.length = 17) ∧ Xt H H' ∧ H' e1 = some (.lst (zs.map V.int))) ?_ ?_ ?_ ?_
    · refine ⟨ms, none, none, rfl, ?_, fun nz => ?_, xx1.trans (Xt.new ne1), by rw [upd_same, ez]⟩
      · rw [upd_ne ne1D]
        exact ed
      · rw [el, List.length_map, List.length_take]
        by_cases h : ns.length ≤ 17
        · have := cut_from0 ns 17 (some 60) h
          rw [show (17 : Int) = ((17 : Nat) : Int) from rfl] at ez
          rw [this] at ez
          cases zs with
          | nil => exact absurd rfl nz
          | cons _ _ => simp at ez
        · omega
    · intro i σ' H' _ ⟨_, _, _, _, _, _, _, h⟩
      exact SqL.of h
    · intro i v σ' H' H2 hi ⟨ms, y2, y3, es, ed', l17, xt, ee⟩ hy
      obtain ⟨T, vi, vy, rfl, nT, rfl, f1, f2⟩ := hy
      cases f1
      subst es
      have f2 : (zs.map V.int)[i]? = some vy := f2
      rw [List.getElem?_map] at f2
      obtain ⟨z, hz, rfl⟩ := Option.map_eq_some_iff.mp f2
      have nz : zs ≠ [] := by
        intro c
        subst c
        simp at hz
      have l := l17 nz
      have nTD : D ≠ T := ne_of_none ed' nT
      have edT : (upd H' T (.tup [.int (i : Nat), .int z])) D = some (.lst (ms.map V.int)) := by rw [upd_ne nTD]; exact ed'
      have m0 := Int.emod_nonneg (i : Int) (show (17 : Int) ≠ 0 by decide)
      have m1 := Int.emod_lt_of_pos (i : Int) (show (0 : Int) < 17 by decide)
      have hj : ((i : Int) % 17).toNat < ms.length := by omega
      have ej : (i : Int) % 17 = ((((i : Int) % 17).toNat : Nat) : Int) := (Int.toNat_of_nonneg m0).symm
      have at1 : (ms.map V.int)[((i : Int) % 17).toNat]? = some (.int ms[((i : Int) % 17).toNat]) := by rw [List.getElem?_map, List.getElem?_eq_getElem hj] <;> rfl
      refine ⟨T, [.int (i : Nat), .int z], rfl, SqT.of upd_same, rfl, _, _, rfl, _, _, rfl, rfl, ?_⟩
      refine ⟨.ref D, rfl, .int (i : Nat), rfl, _, 17, rfl, rfl, (show (0 : Int) < 17 by decide), D, _, _, .int ms[((i : Int) % 17).toNat], rfl, rfl, SqL.of edT, at_of ej at1, .int z, rfl, z, rfl, _, _, rfl, rfl, .ref D, rfl, .int (i : Nat), rfl, _, 17, rfl, rfl, (show (0 : Int) < 17 by decide), D, _, _, ((i : Int) % 17).toNat, rfl, rfl, edT, ?_, ?_⟩
      · unfold ixN
        rw [if_pos m0, if_pos (by rw [List.length_map]; omega)]
      · refine ⟨ms.set ((i : Int) % 17).toNat (ms[((i : Int) % 17).toNat] + if z < 0 then -z else z), some (.int z), some (.int (i : Nat)), rfl, ?_, fun _ => by rw [List.length_set]; exact l, fun b o h => ?_, ?_⟩
        · rw [upd_same, ints_set]
        · rw [upd_ne (ne_of_none h nDH)]
          have nb : b ≠ T := ne_of_none (xt b o h) nT
          rw [upd_ne nb]
          exact xt b o h
        · rw [upd_ne (Ne.symm ne1D), upd_ne (ne_of_none ee nT)]
          exact ee
    · intro σ' H' ⟨ms, y2, y3, es, ed', _, xt, _⟩
      subst es
      refine ⟨.ref D, rfl, Nat.le_of_lt (small1000 (show 4 ≤ 1000 by decide)), fun p np => ?_⟩
      have npD : D ≠ p := ne_of_none ed' np
      have npH : H p = none := by
        cases hq : H p with
        | none => rfl
        | some o => rw [xt p o hq] at np; cases np
      exact q p D ms _ npH nDH (xt.trans (Xt.new np)) ⟨Ne.symm npD, ⟨0, 0, 0, upd_same⟩, by rw [upd_ne npD]; exact ed'⟩
end
end K20

set_option Elab.async false
set_option linter.all false
set_option maxRecDepth 100000
set_option maxHeartbeats 1000000
namespace K20
open PySem PySem.Spec PyProof.Rows L2 Cr
open Dr
local macro_rules | `(tactic| walk_at "wp") => `(tactic| simp only [wpSeq, ws_asgN, ws_asgT, ws_asgO, ws_par, ws_app, ws_ext, ws_setL, ws_ifs, ws_for_, ws_whl, ws_ret, ws_retO, ws_retN, ws_brk, ws_cnt, ws_pas, ws_exs, ws_rse0, ws_rse1, ws_frz, vw_d, vw_r, we_cst, we_var, we_glb, we_tup, we_lst, we_dct0, we_bin, we_cmp, we_neg, we_not, we_and, we_or, we_tru, we_ifx, we_idx, we_cut, we_bi, we_isi, we_fn, we_fnP, we_lc, we_lc2, we_rng, we_enu, we_viewT, we_zip, we_view, we_idxO, we_cmp2, we_sset, we_dget, we_get2, we_enuT, wpL, wpAnd, wpOr, wpIfs, wpO, w_asD_d, w_asD_o, w_asB_b, w_asI_i, w_asS_l, w_asS_t, w_asS_o, w_keep_d, w_keep_o, w_keep_r, thaw, List.getElem?_cons_zero, List.getElem?_cons_succ, List.set_cons_zero, List.set_cons_succ, List.map_cons, List.map_nil, tgW, tgL, w_c_lt, w_c_le, w_c_gt, w_c_ge, w_c_eqI, w_c_neI, w_c_eqS, w_c_neS, w_c_isB, w_c_isnB, w_c_is, w_c_isn, w_o_add, w_o_sub, w_o_cat, w_o_catT, w_o_mul, w_o_mod, w_o_div, w_o_pow, w_x_list, w_x_tup, w_u_list, w_u_tup, w_f_lenL, w_f_lenT, w_f_max, w_f_min, w_f_int, w_f_intB, w_f_repr, w_f_tup, w_f_list, w_f_listT, w_z_list, w_z_tup, truW, if_true, Bool.false_eq_true, if_false, Bool.not_eq_true', Option.some.injEq, exists_eq_left', exists_eq_left, wipeS, slotsT, slotsL, List.cons_append, List.nil_append])
local macro_rules | `(tactic| walk_at "st") => `(tactic| ((first | rw [w_seq_cons] | (simp only [w_seq_nil]; rw [w_seq_cons]) | (simp only [w_keep_o, w_keep_d, w_keep_r, w_asD_d, w_asD_o, w_asB_b, w_seq_nil, List.set_cons_zero, List.set_cons_succ]; rw [w_seq_cons])); simp only [ws_asgN, ws_asgT, ws_asgO, ws_par, ws_app, ws_ext, ws_setL, ws_ifs, ws_for_, ws_whl, ws_ret, ws_retO, ws_retN, ws_brk, ws_cnt, ws_pas, ws_exs, ws_rse0, ws_rse1, ws_frz, vw_d, vw_r, we_cst, we_var, we_glb, we_tup, we_lst, we_dct0, we_bin, we_cmp, we_neg, we_not, we_and, we_or, we_tru, we_ifx, we_idx, we_cut, we_bi, we_isi, we_fn, we_fnP, we_lc, we_lc2, we_rng, we_enu, we_viewT, we_zip, we_view, we_idxO, we_cmp2, we_sset, we_dget, we_get2, we_enuT, wpL, wpAnd, wpOr, wpIfs, wpO, w_asD_d, w_asD_o, w_asB_b, w_asI_i, w_asS_l, w_asS_t, w_asS_o, w_keep_d, w_keep_o, w_keep_r, thaw, List.getElem?_cons_zero, List.getElem?_cons_succ, List.set_cons_zero, List.set_cons_succ, List.map_cons, List.map_nil, tgW, tgL, w_c_lt, w_c_le, w_c_gt, w_c_ge, w_c_eqI, w_c_neI, w_c_eqS, w_c_neS, w_c_isB, w_c_isnB, w_c_is, w_c_isn, w_o_add, w_o_sub, w_o_cat, w_o_catT, w_o_mul, w_o_mod, w_o_div, w_o_pow, w_x_list, w_x_tup, w_u_list, w_u_tup, w_f_lenL, w_f_lenT, w_f_max, w_f_min, w_f_int, w_f_intB, w_f_repr, w_f_tup, w_f_list, w_f_listT, w_z_list, w_z_tup, truW, if_true, Bool.false_eq_true, if_false, Bool.not_eq_true', Option.some.injEq, exists_eq_left', exists_eq_left, wipeS, slotsT, slotsL, List.cons_append, List.nil_append]))
local macro_rules | `(tactic| walk_at "ex") => `(tactic| simp only [vw_d, vw_r, we_cst, we_var, we_glb, we_tup, we_lst, we_dct0, we_bin, we_cmp, we_neg, we_not, we_and, we_or, we_tru, we_ifx, we_idx, we_cut, we_bi, we_isi, we_fn, we_fnP, we_lc, we_lc2, we_rng, we_enu, we_viewT, we_zip, we_view, we_idxO, we_cmp2, we_sset, we_dget, we_get2, we_enuT, wpL, wpAnd, wpOr, wpIfs, wpO, w_asD_d, w_asD_o, w_asB_b, w_asI_i, w_asS_l, w_asS_t, w_asS_o, w_keep_d, w_keep_o, w_keep_r, thaw, List.getElem?_cons_zero, List.getElem?_cons_succ, List.set_cons_zero, List.set_cons_succ, List.map_cons, List.map_nil, tgW, tgL, w_c_lt, w_c_le, w_c_gt, w_c_ge, w_c_eqI, w_c_neI, w_c_eqS, w_c_neS, w_c_isB, w_c_isnB, w_c_is, w_c_isn, w_o_add, w_o_sub, w_o_cat, w_o_catT, w_o_mul, w_o_mod, w_o_div, w_o_pow, w_x_list, w_x_tup, w_u_list, w_u_tup, w_f_lenL, w_f_lenT, w_f_max, w_f_min, w_f_int, w_f_intB, w_f_repr, w_f_tup, w_f_list, w_f_listT, w_z_list, w_z_tup, truW, if_true, Bool.false_eq_true, if_false, Bool.not_eq_true', Option.some.injEq, exists_eq_left', exists_eq_left, wipeS, slotsT, slotsL, List.cons_append, List.nil_append])
/-- check_chain: topS 24; fns is_relay; cs ; xs NoRelay -/
abbrev s_check_chain : Stmt := topS 24
abbrev N_check_chain : List Str := ["thing", "place", "relay"]
abbrev P_check_chain : List Str := ["thing"]
def B_check_chain : List Dr.St := [.ifs (.not (.isi (.var 0) ["tuple"])) [.rse1 0 (.neg (.cst (.int 1)))] [], .for_ (.tp [.nm 1, .nm 2]) (.enuT (.var 0)) [.ifs (.not (.fn 0 [.var 2])) [.rse1 0 (.var 1)] []]]
/-- check_sending: topS 25; fns is_sending; cs ; xs NoSending -/
abbrev s_check_sending : Stmt := topS 25
abbrev N_check_sending : List Str := ["thing"]
abbrev P_check_sending : List Str := ["thing"]
def B_check_sending : List Dr.St := [.ifs (.not (.fn 0 [.var 0])) [.rse0 0] []]
/-- bounds_of: topS 27; fns check_chain; cs HOLD, LIMIT; xs  -/
abbrev s_bounds_of : Stmt := topS 27
abbrev N_bounds_of : List Str := ["relays", "sizes", "relay", "size"]
abbrev P_bounds_of : List Str := ["relays"]
def B_bounds_of : List Dr.St := [.exs (.fn 0 [.var 0]), .asg (.nm 1) (.lc2 (.var 3) (.nm 2) (.var 0) [] (.nm 3) (.tup [.idx (.var 2) (.glb 0), .idx (.var 2) (.glb 1)]) [.cmp .IsNot (.var 3) (.cst .none)]), .ret (.sset (.bin .Add (.lst [.cst (.int 0)]) (.var 1)))]
/-- check_bounds: topS 28; fns _are_bounds; cs ; xs NoBounds -/
abbrev s_check_bounds : Stmt := topS 28
abbrev N_check_bounds : List Str := ["thing"]
abbrev P_check_bounds : List Str := ["thing"]
def B_check_bounds : List Dr.St := [.ifs (.not (.fn 0 [.var 0])) [.rse0 0] []]
/-- _are_bounds: topS 29; fns is_count; cs ; xs  -/
abbrev s_are_bounds : Stmt := topS 29
abbrev N_are_bounds : List Str := ["thing", "bound", "low", "high"]
abbrev P_are_bounds : List Str := ["thing"]
def B_are_bounds : List Dr.St := [.ifs (.or [.not (.isi (.var 0) ["list", "tuple"]), .cmp .Eq (.bi .len [.var 0]) (.cst (.int 0))]) [.ret (.cst (.bool false))] [], .ifs (.not (.bi .all [.lc (.fn 0 [.var 1]) (.nm 1) (.var 0) []])) [.ret (.cst (.bool false))] [], .ret (.and [.cmp .Eq (.idx (.var 0) (.cst (.int 0))) (.cst (.int 0)), .bi .all [.lc (.cmp .Lt (.var 2) (.var 3)) (.tp [.nm 2, .nm 3]) (.zip (.var 0) (.cut (.var 0) (some (.cst (.int 1))) none)) []]])]
/-- standing: topS 30; fns check_sending, check_bounds, settled; cs ; xs  -/
abbrev s_standing : Stmt := topS 30
abbrev N_standing : List Str := ["sending", "bounds"]
abbrev P_standing : List Str := ["sending", "bounds"]
def B_standing : List Dr.St := [.exs (.fn 0 [.var 0]), .exs (.fn 1 [.var 1]), .ret (.fn 2 [.var 0, .var 1])]
/-- is_standing: topS 31; fns is_sending, settled; cs ; xs  -/
abbrev s_is_standing : Stmt := topS 31
abbrev N_is_standing : List Str := ["thing", "bounds"]
abbrev P_is_standing : List Str := ["thing", "bounds"]
def B_is_standing : List Dr.St := [.ret (.and [.fn 0 [.var 0], .cmp .Eq (.fn 1 [.var 0, .var 1]) (.var 0)])]
/-- settled: topS 32; fns pushed_down; cs ; xs  -/
abbrev s_settled : Stmt := topS 32
abbrev N_settled : List Str := ["sending", "bounds", "meant", "way", "told", "units", "end", "down"]
abbrev P_settled : List Str := ["sending", "bounds"]
def B_settled : List Dr.St := [.asg (.tp [.nm 2, .nm 3, .nm 4, .nm 5, .nm 6]) (.var 0), .ifs (.cmp .Is (.var 4) (.cst .none)) [.asg (.nm 7) (.fn 0 [.tup [.var 2, .var 5], .var 1]), .ret (.tup [.dget (.var 7) (.var 2), .var 3, .cst .none, .dget (.var 7) (.var 5), .var 6])] [], .asg (.nm 7) (.fn 0 [.tup [.var 2, .var 4, .var 5], .var 1]), .ret (.tup [.dget (.var 7) (.var 2), .var 3, .dget (.var 7) (.var 4), .dget (.var 7) (.var 5), .var 6])]
/-- pushed_down: topS 33; fns ; cs ; xs  -/
abbrev s_pushed_down : Stmt := topS 33
abbrev N_pushed_down : List Str := ["values", "bounds", "down", "last", "value", "lower", "bound"]
abbrev P_pushed_down : List Str := ["values", "bounds"]
def B_pushed_down : List Dr.St := [.asgO 2 .dct0, .asg (.nm 3) (.cst (.int 0)), .for_ (.nm 4) (.sset (.var 0)) [.asg (.nm 5) (.bi .max [.lc (.var 6) (.nm 6) (.var 1) [.cmp .LtE (.var 6) (.var 4)]]), .asg (.nm 3) (.ifx (.cmp .Eq (.var 4) (.var 5)) (.var 4) (.bin .Add (.bi .max [.var 5, .var 3]) (.cst (.int 1)))), .setL 2 (.var 4) (.var 3)], .retO 2]
def gCh : Dr.GI := ⟨[("is_relay", ⟨4, ["thing"], false, ctF grRel⟩)], [], none, [("NoRelay", true)]⟩
def chainW (R : Sv → Prop) (X : Exc → Prop) : List PyData → Nat → Prop
  | [], _ => R (.dat .none)
  | r :: rs, i => if isRel r = true then chainW R X rs (i + 1) else i < 1000000 ∧ X ⟨"NoRelay", [("place", .int (i : Int))]⟩
def ctChain : List PyData → (Sv → Prop) → (Exc → Prop) → Prop := fun ds R X => ∃ d, ds = [d] ∧ okD d = true ∧ match d with
  | .tuple rs => chainW R X rs 0
  | _ => X ⟨"NoRelay", [("place", .int (-1))]⟩
theorem okD_in {rs : List PyData} (h : okD (.tuple rs) = true) : ∀ r ∈ rs, okD r = true := okDAll_iff.mp h
theorem k_chain : Keeps gCh 3 B_check_chain ⟨5, ["thing"], false, ctChain⟩ := by
  intro t ds R X _ h0 ⟨d, e, ho, h⟩
  subst e
  cases h0 rfl
  change wpSeq (wp1 gCh 30) _ [.dat d, .any, .any] _
  unfold B_check_chain gCh
  walk_at "wp"
  by_cases ht : isaD "tuple" d = true
  · obtain ⟨rs0, rfl⟩ := isa_tup ht
    rw [if_neg (by simp [ht])]
    refine ⟨rs0, rfl, for_ind (J := fun ps e => ∃ rs i a b, ps = ((rs.zipIdx i).map fun z => PyData.tuple [.int (z.2 : Int), z.1]) ∧ e = [.dat (.tuple rs0), a, b] ∧ (∀ r ∈ rs, okD r = true) ∧ chainW R X rs i) ?_ ?_ _ _ ⟨rs0, 0, _, _, rfl, rfl, okD_in ho, h⟩⟩
    · rintro e ⟨rs, i, a, b, e1, rfl, _, hw⟩
      cases rs with
      | nil => exact hw
      | cons r rs => rw [List.zipIdx_cons, List.map_cons] at e1; cases e1
    · rintro p ps e N ih ⟨rs, i, a, b, e1, rfl, hr, hw⟩
      cases rs with
      | nil => cases e1
      | cons r rs =>
        rw [List.zipIdx_cons, List.map_cons] at e1
        cases e1
        walk_at "wp"
        refine ⟨_, ⟨r, rfl, hr r List.mem_cons_self, rfl⟩, ?_⟩
        unfold chainW at hw
        show if isRel r = false then _ else _
        cases hi : isRel r with
        | true =>
          rw [if_pos hi] at hw
          rw [if_neg (fun z => nomatch z)]
          exact ih _ ⟨rs, i + 1, _, _, rfl, rfl, fun q m => hr q (List.mem_cons_of_mem _ m), hw⟩
        | false =>
          rw [if_neg (by rw [hi]; exact Bool.false_ne_true)] at hw
          rw [if_pos rfl]
          exact ⟨log2_small hw.1, hw.2⟩
  · rw [if_pos (by simpa using ht)]
    refine ⟨by decide, ?_⟩
    cases d <;> first | exact absurd rfl ht | exact h
/-! check_sending -/
def gCs : Dr.GI := ⟨[("is_sending", ⟨4, ["thing"], false, ctF grSnd⟩)], [], none, [("NoSending", false)]⟩
def ctCs : List PyData → (Sv → Prop) → (Exc → Prop) → Prop := fun ds R X => ∃ d, ds = [d] ∧ okD d = true ∧ if isSnd d = true then R (.dat .none) else X ⟨"NoSending", []⟩
theorem k_chkSnd : Keeps gCs 1 B_check_sending ⟨5, ["thing"], false, ctCs⟩ := by
  intro t ds R X _ h0 ⟨d, e, ho, h⟩
  subst e
  cases h0 rfl
  change wpSeq (wp1 gCs 30) _ [.dat d] _
  unfold B_check_sending gCs
  walk_at "wp"
  refine ⟨_, ⟨d, rfl, ho, rfl⟩, ?_⟩
  show if isSnd d = false then _ else _
  cases hi : isSnd d with
  | true =>
    rw [if_pos hi] at h
    rw [if_neg (fun z => nomatch z)]
    exact h
  | false =>
    rw [if_neg (by rw [hi]; exact Bool.false_ne_true)] at h
    rw [if_pos rfl]
    exact h
/-! bounds_of -/
def sizesOf (q : Rl) : List Int := q.hold.toList ++ q.limit.toList
def gBo : Dr.GI := ⟨[("check_chain", ⟨5, ["thing"], false, ctChain⟩)], [("HOLD", .int 0), ("LIMIT", .int 6)], none, []⟩
def ctBo : List PyData → (Sv → Prop) → (Exc → Prop) → Prop := fun ds R X => ∃ qs : List Rl, ds = [.tuple (qs.map Rl.d)] ∧ (∀ q ∈ qs, q.ok) ∧ qs.length ≤ 20 ∧ ∀ out : List Int, out.Pairwise (· < ·) → (∀ k, k ∈ out ↔ k = 0 ∨ k ∈ qs.flatMap sizesOf) → R (.own (.list (out.map .int)))
theorem chain_all {R : Sv → Prop} {X : Exc → Prop} (h : R (.dat .none)) : ∀ {rs : List PyData} {i : Nat}, (∀ r ∈ rs, isRel r = true) → chainW R X rs i
  | [], _, _ => h
  | r :: rs, i, hr => by
    unfold chainW
    rw [if_pos (hr r List.mem_cons_self)]
    exact chain_all h fun q m => hr q (List.mem_cons_of_mem _ m)
def sizesD (d : PyData) : List PyData := match d with
  | .tuple [h, _, _, _, _, _, l, _] => [h, l].filter fun z => !isNone z
  | _ => []
theorem sizesD_rl (q : Rl) : sizesD q.d = (sizesOf q).map .int := by
  obtain ⟨h, o, wh, st, ct, wt, l, rs⟩ := q
  cases h <;> cases l <;> rfl
theorem sizes_all (qs : List Rl) : (qs.map Rl.d).flatMap sizesD = (qs.flatMap sizesOf).map PyData.int := by
  induction qs with
  | nil => rfl
  | cons q qs ih => rw [List.map_cons, List.flatMap_cons, List.flatMap_cons, List.map_append, ih, sizesD_rl]
theorem sizes_len (qs : List Rl) : (qs.flatMap sizesOf).length ≤ 2 * qs.length := by
  induction qs with
  | nil => exact Nat.le_refl _
  | cons q qs ih =>
    rw [List.flatMap_cons, List.length_append, List.length_cons]
    have : (sizesOf q).length ≤ 2 := by
      unfold sizesOf
      rw [List.length_append]
      cases q.hold <;> cases q.limit <;> (first | exact (by decide : 0 ≤ 2) | exact (by decide : 1 ≤ 2) | exact Nat.le_refl 2)
    omega
theorem rls_okD (qs : List Rl) : okD (.tuple (qs.map Rl.d)) = true := okDAll_iff.mpr fun d m => by
  obtain ⟨q, _, rfl⟩ := List.mem_map.mp m
  exact rl_okD q
theorem k_bo : Keeps gBo 4 B_bounds_of ⟨6, ["relays"], false, ctBo⟩ := by
  intro t ds R X _ h0 ⟨qs, e, hq, hl, h⟩
  subst e
  cases h0 rfl
  change wpSeq (wp1 gBo 30) _ [.dat (.tuple (qs.map Rl.d)), .any, .any, .any] _
  unfold B_bounds_of gBo
  walk_at "wp"
  refine ⟨_, rfl, rls_okD qs, chain_all ?_ fun d m => ?_⟩
  · have e1 := sizes_all qs
    have e2 := sizes_len qs
    refine lc2_map sizesD (fun d m acc C C' hC hl' => ?_) (by rw [e1, List.length_map, List.length_nil]; omega) ?_
    · obtain ⟨q, _, rfl⟩ := List.mem_map.mp m
      obtain ⟨h, o, wh, st, ct, wt, l, rs⟩ := q
      rw [if_pos rfl]
      refine ⟨_, rfl, _, rfl, ?_⟩
      refine lc_map (fun z => !isNone z) id (fun d m C C' h1 h2 => ?_) ?_ ?_
      · walk_at "wp"
        split
        · rename_i hi
          exact h1 (by rw [hi]; rfl)
        · rename_i hi
          exact h2 (by rw [eq_true_of_ne_false hi]; rfl)
      · exact hl'
      · rw [List.map_id]
        exact hC
    · walk_at "wp"
      rw [e1]
      refine ⟨by rw [List.length_map, List.length_singleton]; omega, 0 :: qs.flatMap sizesOf, Or.inl rfl, by rw [List.length_cons]; omega, fun out h1 h2 => h out h1 fun k => (h2 k).trans List.mem_cons⟩
  · obtain ⟨q, mq, rfl⟩ := List.mem_map.mp m
    exact rl_isRel (hq q mq)
/-! _are_bounds -/
def seqD : PyData → Option (List PyData)
  | .list l => some l
  | .tuple l => some l
  | _ => none
def consec : List Int → Bool
  | a :: b :: r => decide (a < b) && consec (b :: r)
  | _ => true
def intV : PyData → Int
  | .int i => i
  | _ => 0
def areL : List PyData → Bool
  | x :: r => (x :: r).all isCnt && (decide (intV x = 0) && consec ((x :: r).map intV))
  | [] => false
theorem areL_cons (x : PyData) (r : List PyData) : areL (x :: r) = ((x :: r).all isCnt && (decide (intV x = 0) && consec ((x :: r).map intV))) := rfl
def areB (d : PyData) : Bool := match seqD d with
  | some l => areL l
  | none => false
def grAb (ds : List PyData) (r : PyData) : Prop := ∃ d, ds = [d] ∧ (∀ l, seqD d = some l → l.length ≤ 1000000) ∧ r = .bool (areB d)
def gAb : Dr.GI := ⟨[("is_count", ⟨2, ["thing"], false, ctF grCnt⟩)], [], none, []⟩
theorem cnts_int : ∀ {l : List PyData}, l.all isCnt = true → l = (l.map intV).map .int
  | [], _ => rfl
  | x :: l, h => by
    rw [List.all_cons, Bool.and_eq_true] at h
    obtain ⟨i, rfl, _⟩ := cnt_int h.1
    rw [List.map_cons, List.map_cons, ← cnts_int h.2] <;> rfl
def pairLt : PyData → PyData
  | .tuple [.int a, .int b] => .bool (decide (a < b))
  | _ => .none
theorem zip_drop : ∀ ns : List Int, ∃ bs : List Bool, ((zipL (ns.map .int) ((ns.map PyData.int).drop 1)).map pairLt) = bs.map .bool ∧ bs.all id = consec ns ∧ ∀ d ∈ zipL (ns.map .int) ((ns.map PyData.int).drop 1), ∃ a b : Int, d = .tuple [.int a, .int b]
  | [] => ⟨[], rfl, rfl, fun d m => absurd m List.not_mem_nil⟩
  | [a] => ⟨[], rfl, rfl, fun d m => absurd m List.not_mem_nil⟩
  | a :: b :: r => by
    obtain ⟨bs, h1, h2, h3⟩ := zip_drop (b :: r)
    refine ⟨decide (a < b) :: bs, ?_, ?_, fun d m => ?_⟩
    · show PyData.bool (decide (a < b)) :: _ = _
      exact congrArg (PyData.bool (decide (a < b)) :: ·) h1
    · rw [List.all_cons, h2]
      rfl
    · rcases List.mem_cons.mp (show d ∈ PyData.tuple [.int a, .int b] :: zipL ((b :: r).map .int) (((b :: r).map PyData.int).drop 1) from m) with e | m
      · exact ⟨a, b, e⟩
      · exact h3 d m
theorem k_areB : Keeps gAb 4 B_are_bounds ⟨3, ["thing"], false, ctF grAb⟩ := by
  intro t ds R X _ h0 ⟨_, ⟨d, e, hz, e2⟩, h⟩
  subst e e2
  cases h0 rfl
  change wpSeq (wp1 gAb 30) _ [.dat d, .any, .any, .any] _
  have key : ∀ l, (d = .list l ∨ d = .tuple l) → wpSeq (wp1 gAb 30) B_are_bounds [.dat d, .any, .any, .any] (endP R X) := by
    intro l hd
    unfold B_are_bounds gAb
    have hl : l.length ≤ 1000000 := hz l (by rcases hd with rfl | rfl <;> rfl)
    have hi : (["list", "tuple"].any fun T => isaD T d) = true := by rcases hd with rfl | rfl <;> rfl
    have e1 : areB d = areL l := by rcases hd with rfl | rfl <;> rfl
    have hlen : ∀ k : PyData → Prop, k (.int (l.length : Int)) → biW .len [d] k := by rcases hd with rfl | rfl <;> exact fun k h => h
    have hs : ∀ k : List PyData → Prop, k l → asS (.dat d) k := by rcases hd with rfl | rfl <;> exact fun k h => h
    have hix : ∀ (x : PyData) (k : PyData → Prop), atI l 0 = some x → k x → idxW d (.int 0) k := by rcases hd with rfl | rfl <;> exact fun x k e h => ⟨x, e, h⟩
    have hzp : ∀ k : List PyData → Prop, k (zipL l (l.drop 1)) → cutW d (some 1) none fun y => zipW d y k := by
      rcases hd with rfl | rfl <;> (intro k h; rw [← cut_tail] at h; exact h)
    rw [e1] at h
    walk_at "st"
    rw [hi, if_neg (fun z => nomatch z)]
    refine hlen _ ?_
    cases l with
    | nil => exact h
    | cons x r =>
      rw [w_c_eqI, if_neg (fun z => by have := of_decide_eq_true z; rw [List.length_cons] at this; omega)]
      walk_at "st"
      refine hs _ (lc_all (fun d => .bool (isCnt d)) (fun d m C C' h1 => ⟨_, ⟨d, rfl, rfl⟩, h1⟩) (by rw [List.length_nil]; omega) ?_)
      rw [List.nil_append, show ((x :: r).map fun d => PyData.bool (isCnt d)) = ((x :: r).map isCnt).map .bool by rw [List.map_map]; rfl]
      refine w_f_all ?_
      have e2 : (List.map isCnt (x :: r)).all id = (x :: r).all isCnt := by rw [List.all_map] <;> rfl
      rw [w_asB_b, e2]
      cases ha : (x :: r).all isCnt with
      | false =>
        rw [if_pos rfl]
        rw [areL_cons, ha] at h
        exact h
      | true =>
        rw [if_neg (fun z => nomatch z)]
        have en := cnts_int ha
        have ex : x = .int (intV x) := by rw [List.map_cons, List.map_cons, List.cons.injEq] at en; exact en.1
        rw [areL_cons, ha, Bool.true_and] at h
        walk_at "st"
        refine hix x _ (atI_nat (j := 0) rfl) ?_
        rw [ex, w_c_eqI]
        by_cases hx : intV x = 0
        · rw [decide_eq_true hx, Bool.true_and] at h
          rw [if_pos (decide_eq_true hx)]
          refine hzp _ ?_
          obtain ⟨bs, b1, b2, b3⟩ := zip_drop ((x :: r).map intV)
          rw [← en] at b1 b3
          refine lc_all pairLt (fun d m C C' h1 => ?_) ?_ ?_
          · obtain ⟨a, b, rfl⟩ := b3 d m
            exact h1
          · rw [List.length_nil]
            unfold zipL
            rw [List.length_map, List.length_zip]
            omega
          · rw [List.nil_append, b1]
            refine w_f_all ?_
            rw [w_asB_b, b2]
            exact h
        · rw [decide_eq_false hx, Bool.false_and] at h
          rw [if_neg (by simp [hx])]
          exact h
  cases d with
  | list l => exact key l (Or.inl rfl)
  | tuple l => exact key l (Or.inr rfl)
  | _ =>
    unfold B_are_bounds gAb
    walk_at "st"
    exact h
/-! check_bounds -/
def gCb : Dr.GI := ⟨[("_are_bounds", ⟨3, ["thing"], false, ctF grAb⟩)], [], none, [("NoBounds", false)]⟩
def ctCb : List PyData → (Sv → Prop) → (Exc → Prop) → Prop := fun ds R X => ∃ d, ds = [d] ∧ (∀ l, seqD d = some l → l.length ≤ 1000000) ∧ if areB d = true then R (.dat .none) else X ⟨"NoBounds", []⟩
theorem k_chkB : Keeps gCb 1 B_check_bounds ⟨4, ["thing"], false, ctCb⟩ := by
  intro t ds R X _ h0 ⟨d, e, ho, h⟩
  subst e
  cases h0 rfl
  change wpSeq (wp1 gCb 30) _ [.dat d] _
  unfold B_check_bounds gCb
  walk_at "st"
  refine ⟨_, ⟨d, rfl, ho, rfl⟩, ?_⟩
  show if areB d = false then _ else _
  cases hi : areB d with
  | true =>
    rw [if_pos hi] at h
    rw [if_neg (fun z => nomatch z)]
    exact h
  | false =>
    rw [if_neg (by rw [hi]; exact Bool.false_ne_true)] at h
    rw [if_pos rfl]
    exact h
end K20

set_option Elab.async false
set_option linter.all false
set_option maxRecDepth 100000
set_option maxHeartbeats 1000000
namespace K20
open PySem PySem.Spec
/-! standings, as numbers -/
structure Good (bs : List Int) : Prop where
  rise : bs.Pairwise (· < ·)
  zero : 0 ∈ bs
  pos : ∀ b ∈ bs, 0 ≤ b
def loF : List Int → Int → Int
  | [], _ => 0
  | b :: bs, v => if b ≤ v ∧ loF bs v < b then b else loF bs v
theorem lo_le {v : Int} (h : 0 ≤ v) : ∀ bs : List Int, loF bs v ≤ v
  | [] => h
  | b :: bs => by
    unfold loF
    split
    · rename_i h
      exact h.1
    · exact lo_le h bs
theorem lo_ub {v b : Int} : ∀ {bs : List Int}, b ∈ bs → b ≤ v → b ≤ loF bs v
  | [], m, _ => absurd m List.not_mem_nil
  | c :: bs, m, h => by
    unfold loF
    rcases List.mem_cons.mp m with e | m
    · subst e
      split
      · exact Int.le_refl _
      · rename_i h2
        have : ¬ loF bs v < b := fun z => h2 ⟨h, z⟩
        omega
    · have := lo_ub m h
      split <;> omega
theorem lo_mem0 {v : Int} : ∀ bs : List Int, loF bs v = 0 ∨ loF bs v ∈ bs
  | [] => Or.inl rfl
  | c :: bs => by
    unfold loF
    split
    · exact Or.inr List.mem_cons_self
    · rcases lo_mem0 bs with h | h
      · exact Or.inl h
      · exact Or.inr (List.mem_cons_of_mem _ h)
theorem lo_mem {bs : List Int} (g : Good bs) (v : Int) : loF bs v ∈ bs := by
  rcases lo_mem0 (v := v) bs with h | h
  · rw [h]
    exact g.zero
  · exact h
theorem lo_eq {bs : List Int} (g : Good bs) {v m : Int} (hv : 0 ≤ v) (h1 : m ∈ bs) (h2 : m ≤ v) (h3 : ∀ y ∈ bs, y ≤ v → y ≤ m) : m = loF bs v := by
  have a := lo_ub h1 h2
  have b := h3 _ (lo_mem g v) (lo_le hv bs)
  omega
/-- how many lie between -/
def between (ss : List Int) (m v : Int) : List Int := ss.filter fun u => decide (m < u ∧ u ≤ v)
def rkF (bs ss : List Int) (v : Int) : Int := loF bs v + ((between ss (loF bs v) v).length : Int)
theorem between_le {m v : Int} (h : m ≤ v) : ∀ {ss : List Int}, ss.Pairwise (· < ·) → ((between ss m v).length : Int) ≤ v - m := by
  intro ss
  induction ss generalizing m with
  | nil => intro _; show (0 : Int) ≤ _; omega
  | cons s ss ih =>
    intro hp
    rw [List.pairwise_cons] at hp
    unfold between
    rw [List.filter_cons]
    by_cases hc : m < s ∧ s ≤ v
    · rw [if_pos (by simp [hc]), List.length_cons]
      have e : between ss m v = between ss s v := by
        unfold between
        refine List.filter_congr fun u hu => ?_
        have := hp.1 u hu
        by_cases h1 : u ≤ v <;> simp [h1] <;> omega
      have := ih (m := s) hc.2 hp.2
      rw [← e] at this
      unfold between at this
      omega
    · rw [if_neg (by simp only [decide_eq_true_eq]; exact hc)]
      exact ih h hp.2
theorem between_none {ss : List Int} {m v : Int} (h : v ≤ m) : between ss m v = [] := List.filter_eq_nil_iff.mpr fun u _ => by simp; omega
theorem rk_self {bs ss : List Int} {v : Int} (h : loF bs v = v) : rkF bs ss v = v := by
  unfold rkF
  rw [between_none (by omega), h]
  show v + 0 = v
  omega
theorem rk_ge {bs ss : List Int} {v : Int} : loF bs v ≤ rkF bs ss v := by
  unfold rkF
  omega
theorem rk_le {bs ss : List Int} {v : Int} (hv : 0 ≤ v) (hp : ss.Pairwise (· < ·)) : rkF bs ss v ≤ v := by
  unfold rkF
  have := between_le (lo_le hv bs) hp
  omega
/-- where the list is cut -/
theorem between_cut {pre post : List Int} {m v : Int} (hp : (pre ++ v :: post).Pairwise (· < ·)) (h : m < v) : ((between (pre ++ v :: post) m v).length : Int) = ((pre.filter fun u => decide (m < u)).length : Int) + 1 := by
  rw [List.pairwise_append] at hp
  obtain ⟨_, h2, h3⟩ := hp
  rw [List.pairwise_cons] at h2
  unfold between
  rw [List.filter_append, List.filter_cons, if_pos (by simp [h]), List.length_append, List.length_cons]
  have e1 : pre.filter (fun u => decide (m < u ∧ u ≤ v)) = pre.filter fun u => decide (m < u) := List.filter_congr fun u hu => by
    have := h3 u hu v List.mem_cons_self
    by_cases h1 : m < u <;> simp [h1] <;> omega
  have e2 : post.filter (fun u => decide (m < u ∧ u ≤ v)) = [] := List.filter_eq_nil_iff.mpr fun u hu => by
    have := h2.1 u hu
    simp
    omega
  rw [e1, e2]
  simp
theorem rk_step {bs pre post : List Int} {v last : Int} (g : Good bs) (hp : (pre ++ v :: post).Pairwise (· < ·)) (hv : ∀ u ∈ pre ++ v :: post, 0 ≤ u) (hl : (pre = [] ∧ last = 0) ∨ ∃ q w, pre = q ++ [w] ∧ last = rkF bs (pre ++ v :: post) w) (hm : loF bs v ≠ v) :
    rkF bs (pre ++ v :: post) v = (if last > loF bs v then last else loF bs v) + 1 := by
  have v0 : 0 ≤ v := hv v (List.mem_append.mpr (Or.inr List.mem_cons_self))
  have lv := lo_le v0 bs
  have m0 := g.pos _ (lo_mem g v)
  have hmv : loF bs v < v := by omega
  unfold rkF
  rw [between_cut hp hmv]
  rcases hl with ⟨rfl, rfl⟩ | ⟨q, w, rfl, rfl⟩
  · rw [if_neg (by omega)]
    show _ + ((0 : Int) + 1) = _
    omega
  · have hw : w < v := by
      rw [List.pairwise_append] at hp
      exact hp.2.2 w (List.mem_append.mpr (Or.inr List.mem_cons_self)) v List.mem_cons_self
    have w0 : 0 ≤ w := hv w (List.mem_append.mpr (Or.inl (List.mem_append.mpr (Or.inr List.mem_cons_self))))
    have hq : ∀ u ∈ q, u < w := by
      rw [List.pairwise_append] at hp
      have := hp.1
      rw [List.pairwise_append] at this
      exact fun u hu => this.2.2 u hu w List.mem_cons_self
    have e0 : (q ++ [w]) ++ v :: post = q ++ w :: (v :: post) := by rw [List.append_assoc] <;> rfl
    by_cases hwm : w ≤ loF bs v
    · have r1 := rk_le (bs := bs) (ss := (q ++ [w]) ++ v :: post) w0 hp
      have e1 : (q ++ [w]).filter (fun u => decide (loF bs v < u)) = [] := List.filter_eq_nil_iff.mpr fun u hu => by
        rcases List.mem_append.mp hu with hu | hu
        · have := hq u hu
          simp
          omega
        · rw [List.mem_singleton] at hu
          subst hu
          simp
          omega
      rw [e1]
      have r2 : rkF bs (q ++ [w] ++ v :: post) w ≤ loF bs v := by omega
      rw [if_neg (by omega)]
      show _ + ((0 : Int) + 1) = _
      omega
    · have le : loF bs w = loF bs v := by
        have a1 := lo_ub (lo_mem g v) (show loF bs v ≤ w by omega)
        have a2 := lo_le w0 bs
        have a3 := lo_ub (lo_mem g w) (show loF bs w ≤ v by omega)
        omega
      have r : rkF bs ((q ++ [w]) ++ v :: post) w = loF bs v + (((q ++ [w]).filter fun u => decide (loF bs v < u)).length : Int) := by
        unfold rkF
        rw [le, e0, between_cut (by rw [← e0]; exact hp) (by omega)]
        rw [List.filter_append, List.length_append, List.filter_cons, if_pos (by simp; omega)]
        simp
      rw [r, if_pos]
      · omega
      · have : 0 < ((q ++ [w]).filter fun u => decide (loF bs v < u)).length := List.length_pos_of_mem (List.mem_filter.mpr ⟨List.mem_append.mpr (Or.inr List.mem_cons_self), by simp; omega⟩)
        omega
theorem rise_len : ∀ {ss vs : List Int}, ss.Pairwise (· < ·) → (∀ k ∈ ss, k ∈ vs) → ss.length ≤ vs.length
  | [], _, _, _ => Nat.zero_le _
  | s :: ss, vs, hp, h => by
    rw [List.pairwise_cons] at hp
    have m := h s List.mem_cons_self
    have := rise_len (vs := vs.erase s) hp.2 fun k hk => (List.mem_erase_of_ne (by have := hp.1 k hk; omega)).mpr (h k (List.mem_cons_of_mem _ hk))
    rw [List.length_erase_of_mem m] at this
    have := List.length_pos_of_mem m
    rw [List.length_cons]
    omega
def insU (v : Int) : List Int → List Int
  | [] => [v]
  | a :: r => if v < a then v :: a :: r else if v = a then a :: r else a :: insU v r
def sortU : List Int → List Int
  | [] => []
  | v :: vs => insU v (sortU vs)
theorem mem_insU {v k : Int} : ∀ {l : List Int}, k ∈ insU v l ↔ k = v ∨ k ∈ l
  | [] => by simp [insU]
  | a :: r => by
    unfold insU
    split
    · simp
    · split
      · rename_i e
        subst e
        simp
      · rw [List.mem_cons, mem_insU, List.mem_cons]
        constructor
        · rintro (h | h | h)
          · exact Or.inr (Or.inl h)
          · exact Or.inl h
          · exact Or.inr (Or.inr h)
        · rintro (h | h | h)
          · exact Or.inr (Or.inl h)
          · exact Or.inl h
          · exact Or.inr (Or.inr h)
theorem insU_rise {v : Int} : ∀ {l : List Int}, l.Pairwise (· < ·) → (insU v l).Pairwise (· < ·)
  | [], _ => List.pairwise_singleton _ _
  | a :: r, h => by
    have h' := List.pairwise_cons.mp h
    unfold insU
    split
    · rename_i hv
      refine List.pairwise_cons.mpr ⟨fun k m => ?_, h⟩
      rcases List.mem_cons.mp m with e | m
      · omega
      · have := h'.1 k m
        omega
    · split
      · exact h
      · refine List.pairwise_cons.mpr ⟨fun k m => ?_, insU_rise h'.2⟩
        rcases mem_insU.mp m with e | m
        · omega
        · exact h'.1 k m
theorem sortU_rise : ∀ l : List Int, (sortU l).Pairwise (· < ·)
  | [] => .nil
  | v :: vs => insU_rise (sortU_rise vs)
theorem mem_sortU {k : Int} : ∀ {l : List Int}, k ∈ sortU l ↔ k ∈ l
  | [] => Iff.rfl
  | v :: vs => by
    rw [List.mem_cons, ← mem_sortU (l := vs)]
    exact mem_insU
def hiOf : List Int → Int
  | [] => 10000000000000
  | h :: _ => h
theorem hi_le {r : List Int} {y : Int} (h : r.Pairwise (· < ·)) (m : y ∈ r) : hiOf r ≤ y := by
  cases r with
  | nil => exact absurd m List.not_mem_nil
  | cons a r =>
    rcases List.mem_cons.mp m with e | m
    · rw [e]
      exact Int.le_refl _
    · exact Int.le_of_lt ((List.pairwise_cons.mp h).1 y m)
theorem lo_of {done rest : List Int} {low v : Int} (g : Good (done ++ low :: rest)) (h0 : 0 ≤ v) (h1 : low ≤ v) (h2 : v < hiOf rest) : loF (done ++ low :: rest) v = low := by
  have hp := g.rise
  rw [List.pairwise_append] at hp
  have hp2 := List.pairwise_cons.mp hp.2.1
  refine (lo_eq g h0 (List.mem_append.mpr (Or.inr List.mem_cons_self)) h1 fun y my hy => ?_).symm
  rcases List.mem_append.mp my with m | m
  · have := hp.2.2 y m low List.mem_cons_self
    omega
  · rcases List.mem_cons.mp m with e | m
    · omega
    · have := hi_le hp2.2 m
      omega
theorem not_in {done rest : List Int} {low v : Int} (g : Good (done ++ low :: rest)) (h1 : low < v) (h2 : v < hiOf rest) : v ∉ done ++ low :: rest := by
  have hp := g.rise
  rw [List.pairwise_append] at hp
  have hp2 := List.pairwise_cons.mp hp.2.1
  intro my
  rcases List.mem_append.mp my with m | m
  · have := hp.2.2 v m low List.mem_cons_self
    omega
  · rcases List.mem_cons.mp m with e | m
    · omega
    · have := hi_le hp2.2 m
      omega
theorem low_hi {done rest : List Int} {low : Int} (g : Good (done ++ low :: rest)) : rest = [] ∨ low < hiOf rest := by
  cases rest with
  | nil => exact Or.inl rfl
  | cons a r =>
    have hp := g.rise
    rw [List.pairwise_append] at hp
    exact Or.inr ((List.pairwise_cons.mp hp.2.1).1 a List.mem_cons_self)
theorem rk_inner {bs vals inner pre post : List Int} {low high v : Int} (hlo : loF bs v = low) (hi : inner.Pairwise (· < ·)) (hm : ∀ k, k ∈ inner ↔ k ∈ vals ∧ low < k ∧ k < high) (e : pre ++ v :: post = inner) : rkF bs (sortU vals) v = low + 1 + (pre.length : Int) := by
  subst e
  have hp := List.pairwise_append.mp hi
  have hp2 := List.pairwise_cons.mp hp.2.1
  have mv := (hm v).mp (List.mem_append.mpr (Or.inr List.mem_cons_self))
  have : between (sortU vals) low v = pre ++ [v] := by
    refine Dr.rise_eq ((sortU_rise vals).filter _) ?_ fun k => ?_
    · refine List.pairwise_append.mpr ⟨hp.1, List.pairwise_singleton _ _, fun a ha b hb => ?_⟩
      rw [List.mem_singleton] at hb
      subst hb
      exact hp.2.2 a ha b List.mem_cons_self
    · unfold between
      rw [List.mem_filter, mem_sortU, List.mem_append, List.mem_singleton, decide_eq_true_eq]
      constructor
      · rintro ⟨h1, h2, h3⟩
        have := (hm k).mpr ⟨h1, h2, by omega⟩
        rcases List.mem_append.mp this with m | m
        · exact Or.inl m
        · rcases List.mem_cons.mp m with e | m
          · exact Or.inr e
          · have := hp2.1 k m
            omega
      · rintro (m | e)
        · have h1 := (hm k).mp (List.mem_append.mpr (Or.inl m))
          have := hp.2.2 k m v List.mem_cons_self
          exact ⟨h1.1, h1.2.1, by omega⟩
        · subst e
          exact ⟨mv.1, mv.2.1, Int.le_refl _⟩
  unfold rkF
  rw [hlo, this, List.length_append, List.length_singleton]
  omega
end K20

set_option Elab.async false
set_option linter.all false
set_option maxRecDepth 100000
set_option maxHeartbeats 1000000
namespace K20
open PySem PySem.Spec PyProof.Rows L2 Cr
open Dr
local macro_rules | `(tactic| walk_at "wp") => `(tactic| simp only [wpSeq, ws_asgN, ws_asgT, ws_asgO, ws_par, ws_app, ws_ext, ws_setL, ws_ifs, ws_for_, ws_whl, ws_ret, ws_retO, ws_retN, ws_brk, ws_cnt, ws_pas, ws_exs, ws_rse0, ws_rse1, ws_frz, vw_d, vw_r, we_cst, we_var, we_glb, we_tup, we_lst, we_dct0, we_bin, we_cmp, we_neg, we_not, we_and, we_or, we_tru, we_ifx, we_idx, we_cut, we_bi, we_isi, we_fn, we_fnP, we_lc, we_lc2, we_rng, we_enu, we_viewT, we_zip, we_view, we_idxO, we_cmp2, we_sset, we_dget, we_get2, we_enuT, wpL, wpAnd, wpOr, wpIfs, wpO, w_asD_d, w_asD_o, w_asB_b, w_asI_i, w_asS_l, w_asS_t, w_asS_o, w_keep_d, w_keep_o, w_keep_r, thaw, List.getElem?_cons_zero, List.getElem?_cons_succ, List.set_cons_zero, List.set_cons_succ, List.map_cons, List.map_nil, tgW, tgL, w_c_lt, w_c_le, w_c_gt, w_c_ge, w_c_eqI, w_c_neI, w_c_eqS, w_c_neS, w_c_isB, w_c_isnB, w_c_is, w_c_isn, w_o_add, w_o_sub, w_o_cat, w_o_catT, w_o_mul, w_o_mod, w_o_div, w_o_pow, w_x_list, w_x_tup, w_u_list, w_u_tup, w_f_lenL, w_f_lenT, w_f_max, w_f_min, w_f_int, w_f_intB, w_f_repr, w_f_tup, w_f_list, w_f_listT, w_z_list, w_z_tup, truW, if_true, Bool.false_eq_true, if_false, Bool.not_eq_true', Option.some.injEq, exists_eq_left', exists_eq_left, wipeS, slotsT, slotsL, List.cons_append, List.nil_append])
local macro_rules | `(tactic| walk_at "st") => `(tactic| ((first | rw [w_seq_cons] | (simp only [w_seq_nil]; rw [w_seq_cons]) | (simp only [w_keep_o, w_keep_d, w_keep_r, w_asD_d, w_asD_o, w_asB_b, w_seq_nil, List.set_cons_zero, List.set_cons_succ]; rw [w_seq_cons])); simp only [ws_asgN, ws_asgT, ws_asgO, ws_par, ws_app, ws_ext, ws_setL, ws_ifs, ws_for_, ws_whl, ws_ret, ws_retO, ws_retN, ws_brk, ws_cnt, ws_pas, ws_exs, ws_rse0, ws_rse1, ws_frz, vw_d, vw_r, we_cst, we_var, we_glb, we_tup, we_lst, we_dct0, we_bin, we_cmp, we_neg, we_not, we_and, we_or, we_tru, we_ifx, we_idx, we_cut, we_bi, we_isi, we_fn, we_fnP, we_lc, we_lc2, we_rng, we_enu, we_viewT, we_zip, we_view, we_idxO, we_cmp2, we_sset, we_dget, we_get2, we_enuT, wpL, wpAnd, wpOr, wpIfs, wpO, w_asD_d, w_asD_o, w_asB_b, w_asI_i, w_asS_l, w_asS_t, w_asS_o, w_keep_d, w_keep_o, w_keep_r, thaw, List.getElem?_cons_zero, List.getElem?_cons_succ, List.set_cons_zero, List.set_cons_succ, List.map_cons, List.map_nil, tgW, tgL, w_c_lt, w_c_le, w_c_gt, w_c_ge, w_c_eqI, w_c_neI, w_c_eqS, w_c_neS, w_c_isB, w_c_isnB, w_c_is, w_c_isn, w_o_add, w_o_sub, w_o_cat, w_o_catT, w_o_mul, w_o_mod, w_o_div, w_o_pow, w_x_list, w_x_tup, w_u_list, w_u_tup, w_f_lenL, w_f_lenT, w_f_max, w_f_min, w_f_int, w_f_intB, w_f_repr, w_f_tup, w_f_list, w_f_listT, w_z_list, w_z_tup, truW, if_true, Bool.false_eq_true, if_false, Bool.not_eq_true', Option.some.injEq, exists_eq_left', exists_eq_left, wipeS, slotsT, slotsL, List.cons_append, List.nil_append]))
local macro_rules | `(tactic| walk_at "ex") => `(tactic| simp only [vw_d, vw_r, we_cst, we_var, we_glb, we_tup, we_lst, we_dct0, we_bin, we_cmp, we_neg, we_not, we_and, we_or, we_tru, we_ifx, we_idx, we_cut, we_bi, we_isi, we_fn, we_fnP, we_lc, we_lc2, we_rng, we_enu, we_viewT, we_zip, we_view, we_idxO, we_cmp2, we_sset, we_dget, we_get2, we_enuT, wpL, wpAnd, wpOr, wpIfs, wpO, w_asD_d, w_asD_o, w_asB_b, w_asI_i, w_asS_l, w_asS_t, w_asS_o, w_keep_d, w_keep_o, w_keep_r, thaw, List.getElem?_cons_zero, List.getElem?_cons_succ, List.set_cons_zero, List.set_cons_succ, List.map_cons, List.map_nil, tgW, tgL, w_c_lt, w_c_le, w_c_gt, w_c_ge, w_c_eqI, w_c_neI, w_c_eqS, w_c_neS, w_c_isB, w_c_isnB, w_c_is, w_c_isn, w_o_add, w_o_sub, w_o_cat, w_o_catT, w_o_mul, w_o_mod, w_o_div, w_o_pow, w_x_list, w_x_tup, w_u_list, w_u_tup, w_f_lenL, w_f_lenT, w_f_max, w_f_min, w_f_int, w_f_intB, w_f_repr, w_f_tup, w_f_list, w_f_listT, w_z_list, w_z_tup, truW, if_true, Bool.false_eq_true, if_false, Bool.not_eq_true', Option.some.injEq, exists_eq_left', exists_eq_left, wipeS, slotsT, slotsL, List.cons_append, List.nil_append])
def dctOf (bs ss pre : List Int) : List (PyData × PyData) := pre.map fun u => (.int u, .int (rkF bs ss u))
theorem put_new {es : List (PyData × PyData)} {k : Key} {d : PyData} (h : ∀ e ∈ es, keyIs e.1 k = false) : putD es k d = es ++ [(keyD k, d)] := by
  unfold putD
  rw [if_neg]
  intro z
  obtain ⟨e, m, he⟩ := List.any_eq_true.mp z
  rw [h e m] at he
  exact nomatch he
theorem put_rk {bs ss pre : List Int} {v : Int} (h : v ∉ pre) : putD (dctOf bs ss pre) (.inl v) (.int (rkF bs ss v)) = dctOf bs ss (pre ++ [v]) := by
  rw [put_new]
  · unfold dctOf
    rw [List.map_append]
    rfl
  · intro e m
    obtain ⟨u, hu, rfl⟩ := List.mem_map.mp m
    show (u == v) = false
    exact beq_eq_false_iff_ne.mpr fun z => h (z ▸ hu)
def seqI (d : PyData) (bs : List Int) : Prop := d = .list (bs.map .int) ∨ d = .tuple (bs.map .int)
def gPd : Dr.GI := ⟨[], [], none, []⟩
def ctPd : List PyData → (Sv → Prop) → (Exc → Prop) → Prop := fun ds R X => ∃ (vs bs : List Int) (b : PyData), ds = [.tuple (vs.map .int), b] ∧ seqI b bs ∧ Good bs ∧ (∀ v ∈ vs, 0 ≤ v) ∧ vs.length < 64 ∧ bs.length ≤ 1000 ∧ ∀ ss : List Int, ss.Pairwise (· < ·) → (∀ k, k ∈ ss ↔ k ∈ vs) → R (.own (.dict (dctOf bs ss ss)))
theorem k_pd : Keeps gPd 7 B_pushed_down ⟨1, ["values", "bounds"], false, ctPd⟩ := by
  intro t ds R X _ h0 ⟨vs, bs, b, e, hb, g, hv, hl, hbl, h⟩
  subst e
  cases h0 rfl
  change wpSeq (wp1 gPd 30) _ [.dat (.tuple (vs.map .int)), .dat b, .any, .any, .any, .any, .any] _
  unfold B_pushed_down gPd
  have hs : ∀ k : List PyData → Prop, k (bs.map .int) → asS (.dat b) k := by rcases hb with rfl | rfl <;> exact fun k h => h
  walk_at "st"
  refine ⟨by show (2 : Nat) < 7; decide, ?_⟩
  walk_at "st"
  walk_at "st"
  refine ⟨vs, Or.inr rfl, hl, fun ss s1 s2 => ?_⟩
  have ss0 : ∀ u ∈ ss, 0 ≤ u := fun u m => hv u ((s2 u).mp m)
  refine for_ind (J := fun ps e => ∃ (pre post : List Int) (last : Int) (a4 a5 a6 : Sv), ps = post.map .int ∧ pre ++ post = ss ∧ ((pre = [] ∧ last = 0) ∨ ∃ q w, pre = q ++ [w] ∧ last = rkF bs ss w) ∧ e = [.dat (.tuple (vs.map .int)), .dat b, .own (.dict (dctOf bs ss pre)), .dat (.int last), a4, a5, a6]) ?_ ?_ _ _ ⟨[], ss, 0, _, _, _, rfl, rfl, Or.inl ⟨rfl, rfl⟩, rfl⟩
  · rintro e ⟨pre, post, last, a4, a5, a6, e1, e2, _, rfl⟩
    have : post = [] := by cases post with | nil => rfl | cons _ _ => cases e1
    subst this
    rw [List.append_nil] at e2
    subst e2
    walk_at "st"
    exact h _ s1 s2
  · rintro p ps e N ih ⟨pre, post, last, a4, a5, a6, e1, e2, hlast, rfl⟩
    cases post with
    | nil => cases e1
    | cons v post =>
      cases e1
      subst e2
      have v0 : 0 ≤ v := ss0 v (List.mem_append.mpr (Or.inr List.mem_cons_self))
      walk_at "st"
      refine hs _ (lc_ints (fun y => decide (y ≤ v)) (fun y m C C' h1 h2 => ?_) (by rw [List.length_nil]; omega) ?_)
      · walk_at "ex"
        by_cases c : y ≤ v
        · rw [if_pos (decide_eq_true c)]
          exact h1 (decide_eq_true c)
        · rw [if_neg (by simp [c])]
          exact h2 (decide_eq_false c)
      rw [List.nil_append]
      refine ⟨_, rfl, List.length_pos_of_mem (List.mem_filter.mpr ⟨g.zero, decide_eq_true v0⟩), fun m hm hmx => ?_⟩
      have hm' := List.mem_filter.mp hm
      have em : m = loF bs v := lo_eq g v0 hm'.1 (of_decide_eq_true hm'.2) fun y my hy => hmx y (List.mem_filter.mpr ⟨my, decide_eq_true hy⟩)
      subst em
      have vn : v ∉ pre := fun z => by
        rw [List.pairwise_append] at s1
        have := s1.2.2 v z v List.mem_cons_self
        omega
      have fin : ∀ r : Int, r = rkF bs (pre ++ v :: post) v → wpSeq (wp1 { fns := [], cs := [], pot := none, xs := [] } 29) [.setL 2 (.var 4) (.var 3)] [.dat (.tuple (vs.map .int)), .dat b, .own (.dict (dctOf bs (pre ++ v :: post) pre)), .dat (.int r), .dat (.int v), .dat (.int (loF bs v)), a6] { endP R X with nx := N, ct := N, bk := fun e => wpSeq (wp1 { fns := [], cs := [], pot := none, xs := [] } 30) [.retO 2] e (endP R X) } := by
        rintro r rfl
        walk_at "st"
        refine ⟨?_, ?_⟩
        · have := rise_len s1 fun k hk => (s2 k).mp hk
          rw [List.length_append] at this
          unfold dctOf
          rw [List.length_map]
          omega
        · rw [put_rk vn]
          exact ih _ ⟨pre ++ [v], post, _, _, _, _, rfl, by rw [List.append_assoc] <;> rfl, Or.inr ⟨pre, v, rfl, rfl⟩, rfl⟩
      walk_at "st"
      by_cases hmv : loF bs v = v
      · rw [if_pos (decide_eq_true hmv.symm)]
        exact fin v (rk_self hmv).symm
      · rw [if_neg (by simp; omega)]
        exact fin _ (rk_step g s1 ss0 hlast hmv).symm
/-! settled -/
theorem look_rk {bs ss : List Int} {v : Int} : ∀ {pre : List Int}, v ∈ pre → lookK (dctOf bs ss pre) (.inl v) = some (.int (rkF bs ss v))
  | [], m => absurd m List.not_mem_nil
  | u :: pre, m => by
    show (if (u == v) = true then some (PyData.int (rkF bs ss u)) else lookK (dctOf bs ss pre) (.inl v)) = _
    by_cases e : u = v
    · subst e
      rw [if_pos (beq_self_eq_true u)]
    · rw [if_neg (by simp [e])]
      rcases List.mem_cons.mp m with e' | m
      · exact absurd e'.symm e
      · exact look_rk m
def Snd.vals (s : Snd) : List Int := match s.way with
  | .length => [s.meant, s.told, s.units]
  | _ => [s.meant, s.units]
def Snd.at (bs : List Int) (s : Snd) : Snd := ⟨rkF bs (sortU s.vals) s.meant, s.way, rkF bs (sortU s.vals) s.told, rkF bs (sortU s.vals) s.units, s.en⟩
def gSt : Dr.GI := ⟨[("pushed_down", ⟨1, ["values", "bounds"], false, ctPd⟩)], [], none, []⟩
def grSt (ds : List PyData) (r : PyData) : Prop := ∃ (s : Snd) (bs : List Int) (b : PyData), ds = [s.d, b] ∧ seqI b bs ∧ Good bs ∧ (∀ v ∈ s.vals, 0 ≤ v) ∧ bs.length ≤ 1000 ∧ r = (s.at bs).d
theorem k_settled : Keeps gSt 8 B_settled ⟨2, ["sending", "bounds"], false, ctF grSt⟩ := by
  intro t ds R X _ h0 ⟨_, ⟨s, bs, b, e, hb, g, hv, hbl, e2⟩, h⟩
  subst e e2
  cases h0 rfl
  change wpSeq (wp1 gSt 30) _ [.dat s.d, .dat b, .any, .any, .any, .any, .any, .any] _
  unfold B_settled gSt
  have fin : ∀ {vs : List Int}, vs = s.vals → ∀ {v : Int}, v ∈ s.vals → ∀ {ss : List Int}, ss.Pairwise (· < ·) → (∀ k, k ∈ ss ↔ k ∈ vs) → lookK (dctOf bs ss ss) (.inl v) = some (.int (rkF bs (sortU s.vals) v)) := by
    intro vs e v m ss s1 s2
    subst e
    have : ss = sortU s.vals := rise_eq s1 (sortU_rise _) fun k => (s2 k).trans mem_sortU.symm
    subst this
    exact look_rk (mem_sortU.mpr m)
  obtain ⟨m, w, t, u, en⟩ := s
  have hlook : ∀ {es : List (PyData × PyData)} {v r : Int} {k : PyData → Prop}, lookK es (.inl v) = some (.int r) → k (.int r) → keyW (.int v) fun q => ∃ d, lookK es q = some d ∧ k d := fun e h => ⟨_, e, h⟩
  cases w with
  | length =>
    rw [show Snd.d ⟨m, .length, t, u, en⟩ = .tuple [.int m, .str "length", .int t, .int u, .str en.s] from rfl]
    walk_at "st"
    walk_at "st"
    show wpSeq _ _ _ _
    walk_at "st"
    refine ⟨[m, t, u], bs, b, rfl, hb, g, hv, by show (3 : Nat) < 64; decide, hbl, fun ss s1 s2 => ?_⟩
    walk_at "st"
    refine ⟨_, rfl, hlook (fin rfl (by simp [Snd.vals]) s1 s2) ⟨_, rfl, hlook (fin rfl (by simp [Snd.vals]) s1 s2) ⟨_, rfl, hlook (fin rfl (by simp [Snd.vals]) s1 s2) ?_⟩⟩⟩
    exact h
  | marks =>
    rw [show Snd.d ⟨m, .marks, t, u, en⟩ = .tuple [.int m, .str "marks", .none, .int u, .str en.s] from rfl]
    walk_at "st"
    walk_at "st"
    show wpSeq _ _ _ _
    walk_at "st"
    refine ⟨[m, u], bs, b, rfl, hb, g, hv, by show (2 : Nat) < 64; decide, hbl, fun ss s1 s2 => ?_⟩
    walk_at "st"
    refine ⟨_, rfl, hlook (fin rfl (by simp [Snd.vals]) s1 s2) ⟨_, rfl, hlook (fin rfl (by simp [Snd.vals]) s1 s2) ?_⟩⟩
    exact h
  | close =>
    rw [show Snd.d ⟨m, .close, t, u, en⟩ = .tuple [.int m, .str "close", .none, .int u, .str en.s] from rfl]
    walk_at "st"
    walk_at "st"
    show wpSeq _ _ _ _
    walk_at "st"
    refine ⟨[m, u], bs, b, rfl, hb, g, hv, by show (2 : Nat) < 64; decide, hbl, fun ss s1 s2 => ?_⟩
    walk_at "st"
    refine ⟨_, rfl, hlook (fin rfl (by simp [Snd.vals]) s1 s2) ⟨_, rfl, hlook (fin rfl (by simp [Snd.vals]) s1 s2) ?_⟩⟩
    exact h
/-! standing, is_standing -/
theorem vals_pos {s : Snd} (h : s.ok) : ∀ v ∈ s.vals, 0 ≤ v := by
  intro v m
  obtain ⟨h1, h2, h3, _⟩ := h
  obtain ⟨a, w, t, u, en⟩ := s
  cases w <;> simp [Snd.vals] at m
  · have h3 : u ≤ t ∧ t ≤ 1000000000000 := h3 rfl
    have h2 : 0 ≤ u ∧ u ≤ 1000000000000 := h2
    have h1 : 0 ≤ a ∧ a ≤ 1000000000000 := h1
    rcases m with m | m | m <;> omega
  · have h2 : 0 ≤ u ∧ u ≤ 1000000000000 := h2
    have h1 : 0 ≤ a ∧ a ≤ 1000000000000 := h1
    rcases m with m | m <;> omega
  · have h2 : 0 ≤ u ∧ u ≤ 1000000000000 := h2
    have h1 : 0 ≤ a ∧ a ≤ 1000000000000 := h1
    rcases m with m | m <;> omega
def gSg : Dr.GI := ⟨[("check_sending", ⟨5, ["thing"], false, ctCs⟩), ("check_bounds", ⟨4, ["thing"], false, ctCb⟩), ("settled", ⟨2, ["sending", "bounds"], false, ctF grSt⟩)], [], none, []⟩
def ctSg : List PyData → (Sv → Prop) → (Exc → Prop) → Prop := fun ds R X => ∃ a b, ds = [a, b] ∧ okD a = true ∧ (∀ l, seqD b = some l → l.length ≤ 1000) ∧
  if isSnd a = true then (if areB b = true then ∃ (s : Snd) (bs : List Int), a = s.d ∧ (∀ v ∈ s.vals, 0 ≤ v) ∧ seqI b bs ∧ Good bs ∧ R (.dat (s.at bs).d) else X ⟨"NoBounds", []⟩) else X ⟨"NoSending", []⟩
theorem seqI_len {b : PyData} {bs : List Int} (h : seqI b bs) {n : Nat} (hl : ∀ l, seqD b = some l → l.length ≤ n) : bs.length ≤ n := by
  rcases h with rfl | rfl
  · have := hl _ rfl
    rwa [List.length_map] at this
  · have := hl _ rfl
    rwa [List.length_map] at this
theorem k_standing : Keeps gSg 2 B_standing ⟨6, ["sending", "bounds"], false, ctSg⟩ := by
  intro t ds R X _ h0 ⟨a, b, e, ha, hb, h⟩
  subst e
  cases h0 rfl
  change wpSeq (wp1 gSg 30) _ [.dat a, .dat b] _
  unfold B_standing gSg
  walk_at "st"
  refine ⟨a, rfl, ha, ?_⟩
  cases hs : isSnd a with
  | false =>
    rw [if_neg (by rw [hs]; exact Bool.false_ne_true)] at h
    rw [if_neg (fun z => nomatch z)]
    exact h
  | true =>
    rw [if_pos hs] at h
    rw [if_pos rfl]
    walk_at "st"
    refine ⟨b, rfl, fun l e => Nat.le_trans (hb l e) (by decide), ?_⟩
    cases hB : areB b with
    | false =>
      rw [if_neg (by rw [hB]; exact Bool.false_ne_true)] at h
      rw [if_neg (fun z => nomatch z)]
      exact h
    | true =>
      rw [if_pos hB] at h
      rw [if_pos rfl]
      obtain ⟨s, bs, rfl, hv, hq, g, hR⟩ := h
      walk_at "st"
      exact ⟨_, ⟨s, bs, b, rfl, hq, g, hv, seqI_len hq hb, rfl⟩, hR⟩
def gIs : Dr.GI := ⟨[("is_sending", ⟨4, ["thing"], false, ctF grSnd⟩), ("settled", ⟨2, ["sending", "bounds"], false, ctF grSt⟩)], [], none, []⟩
def ctIs : List PyData → (Sv → Prop) → (Exc → Prop) → Prop := fun ds R _ => ∃ a b bs, ds = [a, b] ∧ okD a = true ∧ seqI b bs ∧ Good bs ∧ bs.length ≤ 1000 ∧
  if isSnd a = true then ∃ s : Snd, a = s.d ∧ (∀ v ∈ s.vals, 0 ≤ v) ∧ R (.dat (.bool (PyData.eqv (s.at bs).d s.d))) else R (.dat (.bool false))
theorem k_isStanding : Keeps gIs 2 B_is_standing ⟨6, ["thing", "bounds"], false, ctIs⟩ := by
  intro t ds R X _ h0 ⟨a, b, bs, e, ha, hq, g, hbl, h⟩
  subst e
  cases h0 rfl
  change wpSeq (wp1 gIs 30) _ [.dat a, .dat b] _
  unfold B_is_standing gIs
  walk_at "st"
  refine ⟨_, ⟨a, rfl, ha, rfl⟩, ?_⟩
  cases hs : isSnd a with
  | false =>
    rw [if_neg (by rw [hs]; exact Bool.false_ne_true)] at h
    rw [w_asB_b, if_neg (fun z => nomatch z)]
    exact h
  | true =>
    rw [if_pos hs] at h
    rw [w_asB_b, if_pos rfl]
    obtain ⟨s, rfl, hv, hR⟩ := h
    refine ⟨_, ⟨s, bs, b, rfl, hq, g, hv, hbl, rfl⟩, ?_⟩
    simp only [w_asD_d]
    refine cmpW_nice (snd_nice (s.at bs) (n := 19)) (snd_nice s (n := 19)) ?_
    exact hR
end K20

set_option Elab.async false
set_option linter.all false
set_option maxRecDepth 100000
set_option maxHeartbeats 1000000
namespace K20
open PySem PySem.Spec PyProof.Rows L2 Cr
open Dr
local macro_rules | `(tactic| walk_at "wp") => `(tactic| simp only [wpSeq, ws_asgN, ws_asgT, ws_asgO, ws_par, ws_app, ws_ext, ws_setL, ws_ifs, ws_for_, ws_whl, ws_ret, ws_retO, ws_retN, ws_brk, ws_cnt, ws_pas, ws_exs, ws_rse0, ws_rse1, ws_frz, vw_d, vw_r, we_cst, we_var, we_glb, we_tup, we_lst, we_dct0, we_bin, we_cmp, we_neg, we_not, we_and, we_or, we_tru, we_ifx, we_idx, we_cut, we_bi, we_isi, we_fn, we_fnP, we_lc, we_lc2, we_rng, we_enu, we_viewT, we_zip, we_view, we_idxO, we_cmp2, we_sset, we_dget, we_get2, we_enuT, wpL, wpAnd, wpOr, wpIfs, wpO, w_asD_d, w_asD_o, w_asB_b, w_asI_i, w_asS_l, w_asS_t, w_asS_o, w_keep_d, w_keep_o, w_keep_r, thaw, List.getElem?_cons_zero, List.getElem?_cons_succ, List.set_cons_zero, List.set_cons_succ, List.map_cons, List.map_nil, tgW, tgL, w_c_lt, w_c_le, w_c_gt, w_c_ge, w_c_eqI, w_c_neI, w_c_eqS, w_c_neS, w_c_isB, w_c_isnB, w_c_is, w_c_isn, w_o_add, w_o_sub, w_o_cat, w_o_catT, w_o_mul, w_o_mod, w_o_div, w_o_pow, w_x_list, w_x_tup, w_u_list, w_u_tup, w_f_lenL, w_f_lenT, w_f_max, w_f_min, w_f_int, w_f_intB, w_f_repr, w_f_tup, w_f_list, w_f_listT, w_z_list, w_z_tup, truW, if_true, Bool.false_eq_true, if_false, Bool.not_eq_true', Option.some.injEq, exists_eq_left', exists_eq_left, wipeS, slotsT, slotsL, List.cons_append, List.nil_append])
local macro_rules | `(tactic| walk_at "st") => `(tactic| ((first | rw [w_seq_cons] | (simp only [w_seq_nil]; rw [w_seq_cons]) | (simp only [w_keep_o, w_keep_d, w_keep_r, w_asD_d, w_asD_o, w_asB_b, w_seq_nil, List.set_cons_zero, List.set_cons_succ]; rw [w_seq_cons])); simp only [ws_asgN, ws_asgT, ws_asgO, ws_par, ws_app, ws_ext, ws_setL, ws_ifs, ws_for_, ws_whl, ws_ret, ws_retO, ws_retN, ws_brk, ws_cnt, ws_pas, ws_exs, ws_rse0, ws_rse1, ws_frz, vw_d, vw_r, we_cst, we_var, we_glb, we_tup, we_lst, we_dct0, we_bin, we_cmp, we_neg, we_not, we_and, we_or, we_tru, we_ifx, we_idx, we_cut, we_bi, we_isi, we_fn, we_fnP, we_lc, we_lc2, we_rng, we_enu, we_viewT, we_zip, we_view, we_idxO, we_cmp2, we_sset, we_dget, we_get2, we_enuT, wpL, wpAnd, wpOr, wpIfs, wpO, w_asD_d, w_asD_o, w_asB_b, w_asI_i, w_asS_l, w_asS_t, w_asS_o, w_keep_d, w_keep_o, w_keep_r, thaw, List.getElem?_cons_zero, List.getElem?_cons_succ, List.set_cons_zero, List.set_cons_succ, List.map_cons, List.map_nil, tgW, tgL, w_c_lt, w_c_le, w_c_gt, w_c_ge, w_c_eqI, w_c_neI, w_c_eqS, w_c_neS, w_c_isB, w_c_isnB, w_c_is, w_c_isn, w_o_add, w_o_sub, w_o_cat, w_o_catT, w_o_mul, w_o_mod, w_o_div, w_o_pow, w_x_list, w_x_tup, w_u_list, w_u_tup, w_f_lenL, w_f_lenT, w_f_max, w_f_min, w_f_int, w_f_intB, w_f_repr, w_f_tup, w_f_list, w_f_listT, w_z_list, w_z_tup, truW, if_true, Bool.false_eq_true, if_false, Bool.not_eq_true', Option.some.injEq, exists_eq_left', exists_eq_left, wipeS, slotsT, slotsL, List.cons_append, List.nil_append]))
local macro_rules | `(tactic| walk_at "ex") => `(tactic| simp only [vw_d, vw_r, we_cst, we_var, we_glb, we_tup, we_lst, we_dct0, we_bin, we_cmp, we_neg, we_not, we_and, we_or, we_tru, we_ifx, we_idx, we_cut, we_bi, we_isi, we_fn, we_fnP, we_lc, we_lc2, we_rng, we_enu, we_viewT, we_zip, we_view, we_idxO, we_cmp2, we_sset, we_dget, we_get2, we_enuT, wpL, wpAnd, wpOr, wpIfs, wpO, w_asD_d, w_asD_o, w_asB_b, w_asI_i, w_asS_l, w_asS_t, w_asS_o, w_keep_d, w_keep_o, w_keep_r, thaw, List.getElem?_cons_zero, List.getElem?_cons_succ, List.set_cons_zero, List.set_cons_succ, List.map_cons, List.map_nil, tgW, tgL, w_c_lt, w_c_le, w_c_gt, w_c_ge, w_c_eqI, w_c_neI, w_c_eqS, w_c_neS, w_c_isB, w_c_isnB, w_c_is, w_c_isn, w_o_add, w_o_sub, w_o_cat, w_o_catT, w_o_mul, w_o_mod, w_o_div, w_o_pow, w_x_list, w_x_tup, w_u_list, w_u_tup, w_f_lenL, w_f_lenT, w_f_max, w_f_min, w_f_int, w_f_intB, w_f_repr, w_f_tup, w_f_list, w_f_listT, w_z_list, w_z_tup, truW, if_true, Bool.false_eq_true, if_false, Bool.not_eq_true', Option.some.injEq, exists_eq_left', exists_eq_left, wipeS, slotsT, slotsL, List.cons_append, List.nil_append])
/-- _law_standing: topS 42; fns ; cs ; xs  -/
abbrev s_law_standing : Stmt := topS 42
abbrev N_law_standing : List Str := ["sending", "bounds", "meant", "way", "told", "units", "end", "values", "down", "low", "high", "inner", "place", "value"]
abbrev P_law_standing : List Str := ["sending", "bounds"]
def B_law_standing : List Dr.St := [.asg (.tp [.nm 2, .nm 3, .nm 4, .nm 5, .nm 6]) (.var 0), .asg (.nm 7) (.bin .Add (.lst [.var 2, .var 5]) (.ifx (.cmp .IsNot (.var 4) (.cst .none)) (.lst [.var 4]) (.lst []))), .asgO 8 .dct0, .for_ (.tp [.nm 9, .nm 10]) (.zip (.var 1) (.bin .Add (.bi .list [.cut (.var 1) (some (.cst (.int 1))) none]) (.lst [.bin .Pow (.cst (.int 10)) (.cst (.int 13))]))) [.asg (.nm 11) (.sset (.lc (.var 13) (.nm 13) (.var 7) [.cmp2 .Lt .Lt (.var 9) (.var 13) (.var 10)])), .for_ (.tp [.nm 12, .nm 13]) (.enu (.var 11)) [.setL 8 (.var 13) (.bin .Add (.bin .Add (.var 9) (.cst (.int 1))) (.var 12))]], .ret (.tup [.view (.get2 (.var 8) (.var 2) (.var 2)), .var 3, .view (.get2 (.var 8) (.var 4) (.var 4)), .view (.get2 (.var 8) (.var 5) (.var 5)), .var 6])]
/-- _law_bounds: topS 43; fns ; cs ; xs  -/
abbrev s_law_bounds : Stmt := topS 43
abbrev N_law_bounds : List Str := ["relays", "found", "relay", "number"]
abbrev P_law_bounds : List Str := ["relays"]
def B_law_bounds : List Dr.St := [.asg (.nm 1) (.lst [.cst (.int 0)]), .for_ (.nm 2) (.var 0) [.asg (.nm 1) (.bin .Add (.var 1) (.lc (.var 3) (.nm 3) (.tup [.idx (.var 2) (.cst (.int 0)), .idx (.var 2) (.cst (.int 6))]) [.cmp .IsNot (.var 3) (.cst .none)]))], .ret (.sset (.var 1))]
/-- law: topS 44; fns _law_below*, _law_bounds, bounds_of, _law_some_sending*, standing, _law_some_relay*, _law_standing, is_standing; cs ; xs  -/
abbrev s_law : Stmt := topS 44
abbrev N_law : List Str := ["script", "pot", "turn", "start", "some", "relays", "bounds", "lap", "sending", "found", "bools", "odd", "due", "before", "last"]
abbrev P_law : List Str := ["script"]
def B_law : List Dr.St := [.for_ (.nm 2) (.rng (.cst (.int 14))) [.asg (.nm 3) (.fnP 0 1 [.bin .Mult (.cst (.int 9)) (.bin .Pow (.cst (.int 10)) (.cst (.int 8)))]), .asg (.nm 4) (.lst [.cst (.int 0), .cst (.int 1), .cst (.int 2), .cst (.int 4), .var 3, .bin .Add (.var 3) (.cst (.int 1)), .bin .Add (.var 3) (.cst (.int 3)), .bin .Add (.var 3) (.cst (.int 9))]), .asg (.nm 5) (.bi .tuple [.lc (.fnP 5 1 [.var 4]) (.nm 7) (.rng (.fnP 0 1 [.cst (.int 5)])) []]), .asg (.nm 6) (.fn 1 [.var 5]), .ifs (.cmp .NotEq (.fn 2 [.var 5]) (.var 6)) [.ret (.cst (.bool false))] [], .for_ (.nm 7) (.rng (.cst (.int 4))) [.asg (.nm 8) (.fnP 3 1 [.var 4]), .par 12 13 (.fn 6 [.var 8, .var 6]) (.bi .repr [.tup [.var 8, .var 6]]), .asg (.nm 9) (.fn 4 [.var 8, .var 6]), .ifs (.or [.cmp .NotEq (.bi .repr [.var 9]) (.bi .repr [.var 12]), .cmp .NotEq (.fn 4 [.var 8, .bi .tuple [.var 6]]) (.var 12), .cmp .NotEq (.fn 4 [.var 12, .var 6]) (.var 12)]) [.ret (.cst (.bool false))] [], .ifs (.or [.cmp .IsNot (.fn 7 [.var 12, .var 6]) (.cst (.bool true)), .cmp .NotEq (.fn 7 [.var 8, .var 6]) (.cmp .Eq (.var 8) (.var 12))]) [.ret (.cst (.bool false))] [], .ifs (.or [.cmp .NotEq (.bi .repr [.tup [.var 8, .var 6]]) (.var 13), .cmp .Gt (.idx (.var 9) (.cst (.int 0))) (.idx (.var 8) (.cst (.int 0))), .cmp .Gt (.idx (.var 9) (.cst (.int 3))) (.idx (.var 8) (.cst (.int 3)))]) [.ret (.cst (.bool false))] [], .ifs (.cmp .IsNot (.fn 7 [.var 12, .bi .tuple [.var 6]]) (.cst (.bool true))) [.ret (.cst (.bool false))] [], .asg (.nm 10) (.lst [.tup [.cst (.bool true), .cst (.str "marks"), .cst .none, .cst (.bool true), .cst (.str "mark")], .tup [.cst (.int 0), .cst (.str "close"), .cst .none, .cst (.bool false), .cst (.str "shut")]]), .for_ (.nm 11) (.bin .Add (.var 10) (.lst [.cst .none, .tup [], .bi .list [.var 12], .cut (.var 12) none (some (.cst (.int 4))), .tup [.idx (.var 12) (.cst (.int 0)), .idx (.var 12) (.cst (.int 1)), .idx (.var 12) (.cst (.int 2)), .idx (.var 12) (.cst (.int 3)), .cst (.str "Shut")], .cst (.str "x")])) [.asg (.nm 14) (.bi .repr [.tup [.var 11, .var 6]]), .ifs (.or [.cmp .IsNot (.fn 7 [.var 11, .var 6]) (.cst (.bool false)), .cmp .NotEq (.bi .repr [.tup [.var 11, .var 6]]) (.var 14)]) [.ret (.cst (.bool false))] []]]], .ret (.cst (.bool true))]
theorem keyIs_inj {e : PyData} {k j : Key} (h : Dr.keyIs e k = true) (h' : Dr.keyIs e j = true) : k = j := by
  cases e <;> cases k <;> cases j <;> simp_all [Dr.keyIs]
theorem look_none {k : Key} : ∀ {es : List (PyData × PyData)}, (es.any fun e => Dr.keyIs e.1 k) = false → lookK es k = none
  | [], _ => rfl
  | (e, d) :: r, h => by
    rw [List.any_cons, Bool.or_eq_false_iff] at h
    show (if Dr.keyIs e k = true then some d else lookK r k) = none
    rw [if_neg (by rw [h.1]; exact Bool.false_ne_true)]
    exact look_none h.2
theorem look_map {k j : Key} {d : PyData} : ∀ {es : List (PyData × PyData)}, lookK (es.map fun e => if Dr.keyIs e.1 k = true then (e.1, d) else e) j = if j = k then (if (es.any fun e => Dr.keyIs e.1 k) = true then some d else none) else lookK es j
  | [] => by by_cases h : j = k <;> simp [lookK, h]
  | (e, c) :: r => by
    rw [List.map_cons, List.any_cons]
    cases hk : Dr.keyIs e k with
    | true =>
      rw [if_pos rfl, Bool.true_or, if_pos rfl]
      show (if Dr.keyIs e j = true then some d else lookK _ j) = if j = k then some d else if Dr.keyIs e j = true then some c else lookK r j
      by_cases hj : Dr.keyIs e j = true
      · have := keyIs_inj hj hk
        rw [if_pos hj, if_pos this]
      · have hn : j ≠ k := fun z => hj (z ▸ hk)
        rw [if_neg hj, if_neg hn, if_neg hj, look_map, if_neg hn]
    | false =>
      rw [if_neg Bool.false_ne_true, Bool.false_or]
      show (if Dr.keyIs e j = true then some c else lookK _ j) = if j = k then _ else if Dr.keyIs e j = true then some c else lookK r j
      by_cases hj : j = k
      · subst hj
        rw [if_neg (by rw [hk]; exact Bool.false_ne_true), look_map, if_pos rfl, if_pos rfl]
      · rw [if_neg hj, look_map, if_neg hj]
theorem look_app {j : Key} {e : PyData × PyData} : ∀ {es : List (PyData × PyData)}, lookK (es ++ [e]) j = match lookK es j with | some d => some d | none => if Dr.keyIs e.1 j = true then some e.2 else none
  | [] => rfl
  | (a, c) :: r => by
    show (if Dr.keyIs a j = true then some c else lookK (r ++ [e]) j) = match (if Dr.keyIs a j = true then some c else lookK r j) with | some d => some d | none => if Dr.keyIs e.1 j = true then some e.2 else none
    by_cases h : Dr.keyIs a j = true
    · rw [if_pos h, if_pos h]
    · rw [if_neg h, if_neg h, look_app]
theorem look_put {es : List (PyData × PyData)} {k j : Key} {d : PyData} : lookK (putD es k d) j = if j = k then some d else lookK es j := by
  unfold putD
  cases h : es.any fun e => Dr.keyIs e.1 k with
  | true => rw [if_pos rfl, look_map, h, if_pos rfl]
  | false =>
    rw [if_neg Bool.false_ne_true, look_app]
    by_cases e : j = k
    · subst e
      rw [look_none h, if_pos rfl]
      show (if Dr.keyIs (keyD j) j = true then some d else none) = _
      rw [keyIs_iff, if_pos (decide_eq_true rfl)]
    · rw [if_neg e]
      cases lookK es j with
      | some c => rfl
      | none =>
        show (if Dr.keyIs (keyD k) j = true then some d else none) = none
        rw [keyIs_iff, if_neg (by simp [Ne.symm e])]
theorem put_len {es : List (PyData × PyData)} {k : Key} {d : PyData} : (putD es k d).length ≤ es.length + 1 := by
  unfold putD
  split
  · rw [List.length_map]
    omega
  · rw [List.length_append]
    exact Nat.le_refl _
/-! _law_bounds -/
def gLb : Dr.GI := ⟨[], [], none, []⟩
theorem k_lb : Keeps gLb 4 B_law_bounds ⟨1, ["relays"], false, ctBo⟩ := by
  intro t ds R X _ h0 ⟨qs, e, hq, hl, h⟩
  subst e
  cases h0 rfl
  change wpSeq (wp1 gLb 30) _ [.dat (.tuple (qs.map Rl.d)), .any, .any, .any] _
  unfold B_law_bounds gLb
  walk_at "st"
  walk_at "st"
  refine for_ind (J := fun ps e => ∃ (pre post : List Rl) (a2 a3 : Sv), ps = post.map Rl.d ∧ pre ++ post = qs ∧ e = [.dat (.tuple (qs.map Rl.d)), .dat (.list ((0 :: pre.flatMap sizesOf).map .int)), a2, a3]) ?_ ?_ _ _ ⟨[], qs, _, _, rfl, rfl, rfl⟩
  · rintro e ⟨pre, post, a2, a3, e1, e2, rfl⟩
    have : post = [] := by cases post with | nil => rfl | cons _ _ => cases e1
    subst this
    rw [List.append_nil] at e2
    subst e2
    walk_at "st"
    have := sizes_len pre
    exact ⟨0 :: pre.flatMap sizesOf, Or.inl rfl, by rw [List.length_cons]; omega, fun out h1 h2 => h out h1 fun k => (h2 k).trans List.mem_cons⟩
  · rintro p ps e N ih ⟨pre, post, a2, a3, e1, e2, rfl⟩
    cases post with
    | nil => cases e1
    | cons q post =>
      cases e1
      subst e2
      have := sizes_len (pre ++ q :: post)
      rw [List.flatMap_append, List.length_append, List.flatMap_cons, List.length_append] at this
      walk_at "st"
      obtain ⟨ho, o, wh, st, ct, wt, li, rs⟩ := q
      refine ⟨_, rfl, _, rfl, ?_⟩
      refine lc_map (fun z => !isNone z) id (fun d m C C' h1 h2 => ?_) (by rw [List.length_nil]; exact Nat.le_trans (by rw [Nat.zero_add]; exact List.length_filter_le _ _) (by decide : 2 ≤ 16777215)) ?_
      · walk_at "ex"
        split
        · rename_i hi
          exact h1 (by rw [hi]; rfl)
        · rename_i hi
          exact h2 (by rw [eq_true_of_ne_false hi]; rfl)
      have e3 : [sizeD ho, sizeD li].filter (fun z => !isNone z) = (sizesOf ⟨ho, o, wh, st, ct, wt, li, rs⟩).map .int := sizesD_rl ⟨ho, o, wh, st, ct, wt, li, rs⟩
      have e4 : (0 :: (pre ++ [(⟨ho, o, wh, st, ct, wt, li, rs⟩ : Rl)]).flatMap sizesOf).map PyData.int = .int 0 :: ((pre.flatMap sizesOf).map .int ++ (sizesOf ⟨ho, o, wh, st, ct, wt, li, rs⟩).map .int) := by rw [List.flatMap_append, List.flatMap_cons, List.flatMap_nil, List.append_nil, List.map_cons, List.map_append]
      rw [List.map_id, List.nil_append, e3]
      refine ⟨?_, ?_⟩
      · rw [List.length_cons, List.length_map, List.length_map]
        omega
      · exact ih _ ⟨pre ++ [⟨ho, o, wh, st, ct, wt, li, rs⟩], post, _, _, rfl, by rw [List.append_assoc] <;> rfl, by rw [e4]⟩
/-! _law_standing -/
def gLs : Dr.GI := ⟨[], [], none, []⟩
def grLs (ds : List PyData) (r : PyData) : Prop := ∃ (s : Snd) (bs : List Int), ds = [s.d, .list (bs.map .int)] ∧ Good bs ∧ (∀ v ∈ s.vals, 0 ≤ v ∧ v < 10000000000000) ∧ bs.length ≤ 1000 ∧ r = (s.at bs).d
def AtD (s : Snd) (bs : List Int) (es : List (PyData × PyData)) (H : Int) : Prop := ∀ v ∈ s.vals, lookK es (.inl v) = if v ∈ bs ∨ H ≤ v then none else some (.int (rkF bs (sortU s.vals) v))
def pairsOf : List Int → List PyData
  | [] => []
  | l :: r => .tuple [.int l, .int (hiOf r)] :: pairsOf r
theorem pairs_is : ∀ bs : List Int, zipL (bs.map .int) ((bs.map PyData.int).drop 1 ++ [.int 10000000000000]) = pairsOf bs
  | [] => rfl
  | [a] => rfl
  | a :: b :: r => congrArg (PyData.tuple [.int a, .int b] :: ·) (pairs_is (b :: r))
theorem atD_0 {s : Snd} {bs : List Int} (g : Good bs) (hv : ∀ v ∈ s.vals, 0 ≤ v) : AtD s bs [] (hiOf bs) := fun v m => by
  have h := hi_le g.rise g.zero
  have := hv v m
  rw [if_pos (Or.inr (by omega))]
  rfl
theorem k_ls : Keeps gLs 14 B_law_standing ⟨1, ["sending", "bounds"], false, ctF grLs⟩ := by
  intro t ds R X _ h0 ⟨_, ⟨s, bs, e, g, hv, hbl, e2⟩, h⟩
  subst e e2
  cases h0 rfl
  change wpSeq (wp1 gLs 30) _ [.dat s.d, .dat (.list (bs.map .int)), .any, .any, .any, .any, .any, .any, .any, .any, .any, .any, .any, .any] _
  have main : ∀ (a2 a3 a4 a5 a6 : Sv) (vs : List Int), (∀ v, v ∈ vs ↔ v ∈ s.vals) → vs.length ≤ 3 → (∀ es a9 a10 a11 a12 a13, AtD s bs es 10000000000000 → wpSeq (wp1 gLs 30) [.ret (.tup [.view (.get2 (.var 8) (.var 2) (.var 2)), .var 3, .view (.get2 (.var 8) (.var 4) (.var 4)), .view (.get2 (.var 8) (.var 5) (.var 5)), .var 6])] [Sv.dat s.d, .dat (.list (bs.map .int)), a2, a3, a4, a5, a6, .dat (.list (vs.map .int)), .own (.dict es), a9, a10, a11, a12, a13] (endP R X)) →
      wpSeq (wp1 gLs 30) (B_law_standing.drop 2) [Sv.dat s.d, .dat (.list (bs.map .int)), a2, a3, a4, a5, a6, .dat (.list (vs.map .int)), .any, .any, .any, .any, .any, .any] (endP R X) := by
    intro a2 a3 a4 a5 a6 vs hvs hvl hfin
    unfold B_law_standing gLs
    simp only [List.drop_succ_cons, List.drop_zero]
    walk_at "st"
    refine ⟨by show (8 : Nat) < 14; decide, ?_⟩
    walk_at "st"
    refine ⟨⟨by decide, by decide, by decide⟩, ?_, ?_⟩
    · rw [cut_tail, List.length_drop, List.length_map, List.length_singleton]
      omega
    rw [cut_tail, show (10 : Int) ^ Int.toNat 13 = 10000000000000 by decide, pairs_is]
    refine for_ind (J := fun ps e => ∃ (done rest : List Int) (es : List (PyData × PyData)) (a9 a10 a11 a12 a13 : Sv), ps = pairsOf rest ∧ done ++ rest = bs ∧ AtD s bs es (hiOf rest) ∧ es.length ≤ 3 * done.length ∧ e = [Sv.dat s.d, .dat (.list (bs.map .int)), a2, a3, a4, a5, a6, .dat (.list (vs.map .int)), .own (.dict es), a9, a10, a11, a12, a13]) ?_ ?_ _ _ ⟨[], bs, [], _, _, _, _, _, rfl, rfl, atD_0 g fun v m => (hv v m).1, Nat.le_refl _, rfl⟩
    · rintro e ⟨done, rest, es, a9, a10, a11, a12, a13, e1, e2, ha, _, rfl⟩
      cases rest with
      | nil => exact hfin es _ _ _ _ _ ha
      | cons _ _ => cases e1
    · rintro p ps e N ih ⟨done, rest, es, a9, a10, a11, a12, a13, e1, e2, ha, hn, rfl⟩
      cases rest with
      | nil => cases e1
      | cons low rest =>
        cases e1
        subst e2
        have hbl' : done.length + (rest.length + 1) ≤ 1000 := by rw [List.length_append, List.length_cons] at hbl; exact hbl
        walk_at "ex"
        walk_at "st"
        refine lc_ints (fun v => decide (low < v) && decide (v < hiOf rest)) (fun v m C C' h1 h2 => ?_) (by rw [List.length_nil]; omega) ?_
        · walk_at "ex"
          by_cases c1 : low < v
          · rw [if_pos (decide_eq_true c1)]
            by_cases c2 : v < hiOf rest
            · rw [if_pos (decide_eq_true c2)]
              exact h1 (by simp [c1, c2])
            · rw [if_neg (by simp [c2])]
              exact h2 (by simp [c2])
          · rw [if_neg (by simp [c1])]
            exact h2 (by simp [c1])
        rw [List.nil_append]
        refine ⟨_, Or.inl rfl, Nat.lt_of_le_of_lt (List.length_filter_le _ _) (by omega), fun inner i1 i2 => ?_⟩
        have i3 : ∀ k, k ∈ inner ↔ k ∈ s.vals ∧ low < k ∧ k < hiOf rest := fun k => by
          rw [i2 k, List.mem_filter, hvs k]
          simp
        have il : inner.length ≤ 3 := Nat.le_trans (rise_len i1 fun k m => (List.mem_filter.mp ((i2 k).mp m)).1) hvl
        walk_at "st"
        refine ⟨_, rfl, for_ind (J := fun ps e => ∃ (pre post : List Int) (es' : List (PyData × PyData)) (b12 b13 : Sv), ps = ((post.map PyData.int).zipIdx pre.length).map (fun z => PyData.tuple [.int (z.2 : Int), z.1]) ∧ pre ++ post = inner ∧ (∀ v ∈ s.vals, lookK es' (.inl v) = if v ∈ pre then some (.int (rkF (done ++ low :: rest) (sortU s.vals) v)) else lookK es (.inl v)) ∧ es'.length ≤ es.length + pre.length ∧
            e = [Sv.dat s.d, .dat (.list ((done ++ low :: rest).map .int)), a2, a3, a4, a5, a6, .dat (.list (vs.map .int)), .own (.dict es'), .dat (.int low), .dat (.int (hiOf rest)), .dat (.list (inner.map .int)), b12, b13]) ?_ ?_ _ _ ⟨[], inner, es, _, _, rfl, rfl, fun v m => by rw [if_neg List.not_mem_nil], Nat.le_refl _, rfl⟩⟩
        · rintro e ⟨pre, post, es', b12, b13, e1, e2, hl1, hl2, rfl⟩
          have : post = [] := by
            cases post with
            | nil => rfl
            | cons _ _ => rw [List.map_cons, List.zipIdx_cons, List.map_cons] at e1; cases e1
          subst this
          rw [List.append_nil] at e2
          subst e2
          refine ih _ ⟨done ++ [low], rest, es', _, _, _, _, _, rfl, by rw [List.append_assoc] <;> rfl, fun v m => ?_, by rw [List.length_append, List.length_singleton]; omega, rfl⟩
          rw [hl1 v m]
          have hv0 := hv v m
          by_cases mp : v ∈ pre
          · have h3 := (i3 v).mp mp
            have := not_in g h3.2.1 h3.2.2
            rw [if_pos mp, if_neg (by rintro (z | z); exact this z; omega)]
          · rw [if_neg mp, ha v m]
            have hn3 : ¬ (low < v ∧ v < hiOf rest) := fun z => mp ((i3 v).mpr ⟨m, z⟩)
            show (if v ∈ done ++ low :: rest ∨ low ≤ v then _ else _) = _
            by_cases mb : v ∈ done ++ low :: rest
            · rw [if_pos (Or.inl mb), if_pos (Or.inl mb)]
            · have hne : v ≠ low := fun z => mb (z ▸ List.mem_append.mpr (Or.inr List.mem_cons_self))
              have hlh := low_hi g
              by_cases hh : hiOf rest ≤ v
              · have : low ≤ v := by
                  rcases hlh with e | e
                  · subst e
                    have : (10000000000000 : Int) ≤ v := hh
                    omega
                  · omega
                rw [if_pos (Or.inr this), if_pos (Or.inr hh)]
              · have : ¬ low ≤ v := by omega
                rw [if_neg (by rintro (z | z); exact mb z; exact this z), if_neg (by rintro (z | z); exact mb z; exact hh z)]
        · rintro p ps e N2 ih2 ⟨pre, post, es', b12, b13, e1, e2, hl1, hl2, rfl⟩
          cases post with
          | nil => cases e1
          | cons v post =>
            rw [List.map_cons, List.zipIdx_cons, List.map_cons] at e1
            cases e1
            have mi : v ∈ inner := e2 ▸ List.mem_append.mpr (Or.inr List.mem_cons_self)
            have h3 := (i3 v).mp mi
            have rk := rk_inner (lo_of g (hv v h3.1).1 (by omega) h3.2.2) i1 i3 e2
            have pl : pre.length + (post.length + 1) ≤ 3 := by rw [← e2, List.length_append, List.length_cons] at il; exact il
            walk_at "ex"
            walk_at "st"
            refine ⟨by omega, ?_⟩
            refine ih2 _ ⟨pre ++ [v], post, _, _, _, by rw [List.length_append] <;> rfl, by rw [List.append_assoc]; exact e2, fun u mu => ?_, Nat.le_trans put_len (by rw [List.length_append, List.length_singleton]; omega), rfl⟩
            rw [look_put]
            by_cases e : u = v
            · subst e
              rw [if_pos rfl, if_pos (List.mem_append.mpr (Or.inr List.mem_cons_self)), rk]
            · rw [if_neg (fun z => e (by cases z; rfl)), hl1 u mu]
              by_cases mp : u ∈ pre
              · rw [if_pos mp, if_pos (List.mem_append.mpr (Or.inl mp))]
              · rw [if_neg mp, if_neg (fun z => by rcases List.mem_append.mp z with z | z; exact mp z; exact e (List.mem_singleton.mp z))]
  have get : ∀ {es : List (PyData × PyData)} {v : Int}, AtD s bs es 10000000000000 → v ∈ s.vals → ((some (Sum.inl v : Key)).bind (lookK es)).getD (.int v) = .int (rkF bs (sortU s.vals) v) := by
    intro es v ha m
    show (lookK es (.inl v)).getD (.int v) = _
    have h1 := hv v m
    rw [ha v m]
    by_cases mb : v ∈ bs
    · rw [if_pos (Or.inl mb)]
      show PyData.int v = _
      rw [rk_self]
      have := lo_ub mb (Int.le_refl v)
      have := lo_le h1.1 bs
      omega
    · rw [if_neg (by rintro (z | z); exact mb z; omega)]
      rfl
  have kI : ∀ {v : Int} {k : Option Key → Prop}, keyN (.int v) k = k (some (.inl v)) := rfl
  have kN : ∀ {k : Option Key → Prop}, keyN .none k = k none := rfl
  obtain ⟨m, w, t, u, en⟩ := s
  unfold B_law_standing gLs
  cases w with
  | length =>
    rw [show Snd.d ⟨m, .length, t, u, en⟩ = .tuple [.int m, .str "length", .int t, .int u, .str en.s] from rfl]
    walk_at "st"
    walk_at "st"
    rw [if_pos (show isNone (PyData.int t) = false from rfl)]
    refine ⟨by show (3 : Nat) ≤ 16777216; decide, main _ _ _ _ _ [m, u, t] ?_ ?_ ?_⟩
    · intro v
      simp only [Snd.vals, List.mem_cons, List.not_mem_nil, or_false]
      omega
    · exact Nat.le_refl _
    · intro es a9 a10 a11 a12 a13 ha
      unfold gLs
      walk_at "st"
      refine ⟨es, rfl, ?_⟩
      rw [kI, get (v := m) ha (by simp [Snd.vals])]
      refine ⟨rfl, ?_⟩
      refine ⟨es, rfl, ?_⟩
      rw [kI, get (v := t) ha (by simp [Snd.vals])]
      refine ⟨rfl, ?_⟩
      refine ⟨es, rfl, ?_⟩
      rw [kI, get (v := u) ha (by simp [Snd.vals])]
      refine ⟨rfl, ?_⟩
      exact h
  | marks =>
    rw [show Snd.d ⟨m, .marks, t, u, en⟩ = .tuple [.int m, .str "marks", .none, .int u, .str en.s] from rfl]
    walk_at "st"
    walk_at "st"
    rw [if_neg (show ¬ isNone PyData.none = false from fun z => nomatch z)]
    refine ⟨by show (2 : Nat) ≤ 16777216; decide, main _ _ _ _ _ [m, u] ?_ ?_ ?_⟩
    · intro v
      simp only [Snd.vals, List.mem_cons, List.not_mem_nil, or_false]
    · show 2 ≤ 3
      decide
    · intro es a9 a10 a11 a12 a13 ha
      unfold gLs
      walk_at "st"
      refine ⟨es, rfl, ?_⟩
      rw [kI, get (v := m) ha (by simp [Snd.vals])]
      refine ⟨rfl, ?_⟩
      refine ⟨es, rfl, ?_⟩
      rw [kN]
      refine ⟨rfl, ?_⟩
      refine ⟨es, rfl, ?_⟩
      rw [kI, get (v := u) ha (by simp [Snd.vals])]
      refine ⟨rfl, ?_⟩
      exact h
  | close =>
    rw [show Snd.d ⟨m, .close, t, u, en⟩ = .tuple [.int m, .str "close", .none, .int u, .str en.s] from rfl]
    walk_at "st"
    walk_at "st"
    rw [if_neg (show ¬ isNone PyData.none = false from fun z => nomatch z)]
    refine ⟨by show (2 : Nat) ≤ 16777216; decide, main _ _ _ _ _ [m, u] ?_ ?_ ?_⟩
    · intro v
      simp only [Snd.vals, List.mem_cons, List.not_mem_nil, or_false]
    · show 2 ≤ 3
      decide
    · intro es a9 a10 a11 a12 a13 ha
      unfold gLs
      walk_at "st"
      refine ⟨es, rfl, ?_⟩
      rw [kI, get (v := m) ha (by simp [Snd.vals])]
      refine ⟨rfl, ?_⟩
      refine ⟨es, rfl, ?_⟩
      rw [kN]
      refine ⟨rfl, ?_⟩
      refine ⟨es, rfl, ?_⟩
      rw [kI, get (v := u) ha (by simp [Snd.vals])]
      refine ⟨rfl, ?_⟩
      exact h
end K20

set_option Elab.async false
set_option linter.all false
set_option maxRecDepth 100000
set_option maxHeartbeats 1000000
namespace K20
open PySem PySem.Spec PyProof.Rows L2 Cr Dr
theorem if_no {c : Prop} [i : Decidable c] {a b : Prop} (h : ¬ c) (hb : b) : if c then a else b := by
  rw [if_neg h]
  exact hb
theorem if_yes {c : Prop} [i : Decidable c] {a b : Prop} (h : c) (ha : a) : if c then a else b := by
  rw [if_pos h]
  exact ha
theorem rk_mono {bs ss : List Int} {u t : Int} (g : Good bs) (hs : ss.Pairwise (· < ·)) (u0 : 0 ≤ u) (h : u ≤ t) : rkF bs ss u ≤ rkF bs ss t := by
  have l1 := lo_ub (lo_mem g u) (show loF bs u ≤ t from Int.le_trans (lo_le u0 bs) h)
  by_cases e : loF bs u = loF bs t
  · unfold rkF
    rw [e]
    have : (between ss (loF bs t) u).length ≤ (between ss (loF bs t) t).length := rise_len (hs.filter _) fun k hk => by
      unfold between at hk ⊢
      rw [List.mem_filter] at hk ⊢
      refine ⟨hk.1, ?_⟩
      have := of_decide_eq_true hk.2
      exact decide_eq_true ⟨this.1, by omega⟩
    omega
  · have a := rk_le (bs := bs) u0 hs
    have b := rk_ge (bs := bs) (ss := ss) (v := t)
    have c : ¬ loF bs t ≤ u := fun z => by
      have := lo_ub (lo_mem g t) z
      omega
    omega
theorem rk_pos {bs ss : List Int} {v : Int} (g : Good bs) : 0 ≤ rkF bs ss v := by
  have a := rk_ge (bs := bs) (ss := ss) (v := v)
  have b := g.pos _ (lo_mem g v)
  omega
theorem lo_rk {bs ss : List Int} {v : Int} (g : Good bs) (hs : ss.Pairwise (· < ·)) (v0 : 0 ≤ v) : loF bs (rkF bs ss v) = loF bs v := by
  have a := rk_ge (bs := bs) (ss := ss) (v := v)
  have b := rk_le (bs := bs) v0 hs
  have c := lo_ub (lo_mem g v) a
  have d := lo_ub (lo_mem g (rkF bs ss v)) (show loF bs (rkF bs ss v) ≤ v from Int.le_trans (lo_le (rk_pos g) bs) b)
  omega
theorem rises : ∀ (lo : Int) (n : Nat), ((List.range n).map fun (i : Nat) => lo + 1 + (i : Int)).Pairwise (· < ·) := fun lo n => by
  rw [List.pairwise_map]
  exact List.Pairwise.imp (fun h => by omega) (List.pairwise_lt_range (n := n))
theorem rk_idem {bs vals : List Int} (g : Good bs) (hv : ∀ v ∈ vals, 0 ≤ v) {v : Int} (m : v ∈ vals) : rkF bs (sortU (vals.map (rkF bs (sortU vals)))) (rkF bs (sortU vals) v) = rkF bs (sortU vals) v := by
  have v0 := hv v m
  have hs := sortU_rise vals
  have hs2 := sortU_rise (vals.map (rkF bs (sortU vals)))
  have le := rk_le (bs := bs) (rk_pos (ss := sortU vals) (v := v) g) hs2
  have lo := lo_rk g hs v0
  -- each number below is taken
  have tk : ∀ i : Nat, i < (between (sortU vals) (loF bs v) v).length → loF bs v + 1 + (i : Int) ∈ vals.map (rkF bs (sortU vals)) := by
    intro i hi
    obtain ⟨pre, u, post, e, el⟩ : ∃ pre u post, pre ++ u :: post = between (sortU vals) (loF bs v) v ∧ pre.length = i := by
      refine ⟨(between (sortU vals) (loF bs v) v).take i, (between (sortU vals) (loF bs v) v)[i], (between (sortU vals) (loF bs v) v).drop (i + 1), ?_, by rw [List.length_take]; omega⟩
      rw [← List.drop_eq_getElem_cons hi, List.take_append_drop]
    have hm : ∀ k, k ∈ between (sortU vals) (loF bs v) v ↔ k ∈ vals ∧ loF bs v < k ∧ k < v + 1 := fun k => by
      unfold between
      rw [List.mem_filter, mem_sortU, decide_eq_true_eq]
      constructor
      · rintro ⟨a, b, c⟩
        exact ⟨a, b, by omega⟩
      · rintro ⟨a, b, c⟩
        exact ⟨a, b, by omega⟩
    have mu := (hm u).mp (e ▸ List.mem_append.mpr (Or.inr List.mem_cons_self))
    have lu : loF bs u = loF bs v := by
      have a1 := lo_ub (lo_mem g v) (show loF bs v ≤ u by omega)
      have a2 := lo_le (hv u mu.1) bs
      have a3 := lo_ub (lo_mem g u) (show loF bs u ≤ v by omega)
      omega
    have := rk_inner (bs := bs) lu (hs.filter _) hm e
    rw [el] at this
    rw [← this]
    exact List.mem_map.mpr ⟨u, mu.1, rfl⟩
  have ge : (between (sortU vals) (loF bs v) v).length ≤ (between (sortU (vals.map (rkF bs (sortU vals)))) (loF bs v) (rkF bs (sortU vals) v)).length := by
    have := rise_len (vs := between (sortU (vals.map (rkF bs (sortU vals)))) (loF bs v) (rkF bs (sortU vals) v)) (rises (loF bs v) (between (sortU vals) (loF bs v) v).length) fun k hk => by
      obtain ⟨i, hi, rfl⟩ := List.mem_map.mp hk
      rw [List.mem_range] at hi
      unfold between
      refine List.mem_filter.mpr ⟨mem_sortU.mpr (tk i hi), decide_eq_true ⟨by omega, ?_⟩⟩
      show _ ≤ rkF bs (sortU vals) v
      unfold rkF
      omega
    rwa [List.length_map, List.length_range] at this
  have : rkF bs (sortU vals) v ≤ rkF bs (sortU (vals.map (rkF bs (sortU vals)))) (rkF bs (sortU vals) v) := by
    show loF bs v + _ ≤ loF bs _ + _
    rw [lo]
    omega
  omega
theorem vals_at {s : Snd} {bs : List Int} : (s.at bs).vals = s.vals.map (rkF bs (sortU s.vals)) := by
  obtain ⟨m, w, t, u, en⟩ := s
  cases w <;> rfl
theorem at_idem {s : Snd} {bs : List Int} (g : Good bs) (hv : ∀ v ∈ s.vals, 0 ≤ v) : ((s.at bs).at bs).d = (s.at bs).d := by
  have key : ∀ v ∈ s.vals, rkF bs (sortU (s.at bs).vals) (rkF bs (sortU s.vals) v) = rkF bs (sortU s.vals) v := fun v m => by
    rw [vals_at]
    exact rk_idem g hv m
  have k1 := key s.meant (by obtain ⟨m, w, t, u, en⟩ := s; cases w <;> simp [Snd.vals])
  have k2 := key s.units (by obtain ⟨m, w, t, u, en⟩ := s; cases w <;> simp [Snd.vals])
  have k3 : s.way = .length → rkF bs (sortU (s.at bs).vals) (rkF bs (sortU s.vals) s.told) = rkF bs (sortU s.vals) s.told := fun e => key s.told (by obtain ⟨m, w, t, u, en⟩ := s; cases e; simp [Snd.vals])
  show PyData.tuple [.int (rkF bs (sortU (s.at bs).vals) (rkF bs (sortU s.vals) s.meant)), .str s.way.s, Snd.toldD ((s.at bs).at bs), .int (rkF bs (sortU (s.at bs).vals) (rkF bs (sortU s.vals) s.units)), .str s.en.s] = PyData.tuple [.int (rkF bs (sortU s.vals) s.meant), .str s.way.s, Snd.toldD (s.at bs), .int (rkF bs (sortU s.vals) s.units), .str s.en.s]
  rw [k1, k2]
  have : Snd.toldD ((s.at bs).at bs) = Snd.toldD (s.at bs) := by
    unfold Snd.toldD
    show (match s.way with | .length => PyData.int (rkF bs (sortU (s.at bs).vals) (rkF bs (sortU s.vals) s.told)) | _ => .none) = match s.way with | .length => PyData.int (rkF bs (sortU s.vals) s.told) | _ => .none
    cases hw : s.way with
    | length =>
      show PyData.int _ = PyData.int _
      rw [k3 hw]
    | marks => rfl
    | close => rfl
  rw [this]
theorem at_ok {s : Snd} {bs : List Int} (g : Good bs) (h : s.ok) : (s.at bs).ok := by
  have hs := sortU_rise s.vals
  obtain ⟨h1, h2, h3, h4⟩ := h
  refine ⟨⟨rk_pos g, Int.le_trans (rk_le h1.1 hs) h1.2⟩, ⟨rk_pos g, Int.le_trans (rk_le h2.1 hs) h2.2⟩, fun e => ?_, h4⟩
  have h3 := h3 e
  exact ⟨rk_mono g hs h2.1 h3.1, Int.le_trans (rk_le (by omega) hs) h3.2⟩
theorem isSnd_mk {m u : Int} {y e : Str} {t : PyData} (a1 : isCnt (.int m) = true) (a2 : strIn (.str y) ways = true) (a3 : decide (0 ≤ u) = true) (a4 : toldOk y t u = true) (a5 : strIn (.str e) (endsOf y) = true) : isSnd (.tuple [.int m, .str y, t, .int u, .str e]) = true := by
  show (isCnt (.int m) && (strIn (.str y) ways && (decide (0 ≤ u) && (toldOk y t u && strIn (.str e) (endsOf y))))) = true
  rw [a1, a2, a3, a4, a5]
  rfl
theorem snd_isSnd {s : Snd} (h : s.ok) : isSnd s.d = true := by
  obtain ⟨m, w, t, u, en⟩ := s
  obtain ⟨h1, h2, h3, h4⟩ := h
  have c1 : isCnt (.int m) = true := decide_eq_true h1.1
  have c2 : decide (0 ≤ u) = true := decide_eq_true h2.1
  refine isSnd_mk (y := w.s) (e := en.s) c1 (ways_has w) c2 ?_ ?_
  · cases w with
    | length =>
      have h3 : u ≤ t ∧ t ≤ 1000000000000 := h3 rfl
      have hu : 0 ≤ u := h2.1
      show (if ("length" : Str) = "length" then decide (0 ≤ t) && decide (u ≤ t) else _) = true
      rw [if_pos rfl]
      simp
      omega
    | marks => rfl
    | close => rfl
  · cases en with
    | mark => cases (show w = .marks from h4 rfl); decide
    | op => cases w <;> decide
    | shut => cases w <;> decide
/-! what the law reads aloud -/
structure Lo (d : PyData) : Prop where
  ok : okD d = true
  rp : RP d 20000
  dp : d.depth ≤ 10
theorem nice_all {n : Nat} : ∀ {ds : List PyData}, (∀ d ∈ ds, Nice d n) → NiceAll ds n
  | [], _ => .nil
  | d :: ds, h => .cons (h d List.mem_cons_self) (nice_all fun x hx => h x (List.mem_cons_of_mem _ hx))
theorem pair_lo {a b : PyData} (ha : Lo a) (hb : Lo b) : ShowsO (.tuple [a, b]) := by
  have r := RP.tuple (.cons ha.rp (.cons hb.rp .nil))
  refine ⟨okDAll_iff.mpr fun x hx => ?_, r.sh, Nat.le_trans r.sz (sz_small (by decide)), ?_⟩
  · simp only [List.mem_cons, List.not_mem_nil, or_false] at hx
    rcases hx with rfl | rfl
    · exact ha.ok
    · exact hb.ok
  · simp only [PyData.depth]
    have := depthAll_le (n := 10) (ds := [a, b]) fun d hd => by
      simp only [List.mem_cons, List.not_mem_nil, or_false] at hd
      rcases hd with rfl | rfl
      · exact ha.dp
      · exact hb.dp
    omega
theorem told_okD (s : Snd) : okD s.toldD = true := by
  unfold Snd.toldD
  cases s.way <;> rfl
theorem snd_okD (s : Snd) : okD s.d = true := okDAll_iff.mpr fun x hx => by
  simp only [Snd.d, List.mem_cons, List.not_mem_nil, or_false] at hx
  rcases hx with rfl | rfl | rfl | rfl | rfl
  · rfl
  · cases s.way <;> decide +kernel
  · exact told_okD s
  · rfl
  · cases s.en <;> decide +kernel
theorem lo_snd {s : Snd} (h : s.ok) : Lo s.d := ⟨snd_okD s, (snd_rp h).up (by decide), Nat.le_trans (snd_nice s (n := 1)).dp (by decide)⟩
theorem lo_ints {ns : List Int} (h : ∀ n ∈ ns, 0 ≤ n ∧ n ≤ 1000000000000) (l : ns.length ≤ 100) : Lo (.list (ns.map .int)) := by
  refine ⟨okDAll_iff.mpr fun x hx => ?_, (RP.list (RPs.all (n := 101) fun d hd => ?_)).up ?_, ?_⟩
  · obtain ⟨n, _, rfl⟩ := List.mem_map.mp hx
    rfl
  · obtain ⟨n, m, rfl⟩ := List.mem_map.mp hd
    exact int_rp (h n m)
  · rw [List.length_map]
    have : ns.length * 103 ≤ 100 * 103 := Nat.mul_le_mul_right _ l
    show ns.length * 103 + 2 ≤ 20000
    omega
  · simp only [PyData.depth]
    have := depthAll_le (n := 1) (ds := ns.map PyData.int) fun d hd => by
      obtain ⟨n, m, rfl⟩ := List.mem_map.mp hd
      simp only [PyData.depth]
      omega
    omega
theorem nice_ints (ns : List Int) : Nice (.list (ns.map .int)) 20 := (Nice.list (n := 1) (nice_all fun d hd => by
  obtain ⟨n, _, rfl⟩ := List.mem_map.mp hd
  exact Nice.int)).up (by decide)
theorem consec_of : ∀ {bs : List Int}, bs.Pairwise (· < ·) → consec bs = true
  | [], _ => rfl
  | [_], _ => rfl
  | a :: b :: r, h => by
    have h' := List.pairwise_cons.mp h
    show (decide (a < b) && consec (b :: r)) = true
    rw [decide_eq_true (h'.1 b List.mem_cons_self), consec_of h'.2]
    rfl
theorem good_areL {bs : List Int} (g : Good bs) : areL (bs.map .int) = true := by
  have e : (bs.map PyData.int).map intV = bs := by
    rw [List.map_map]
    exact List.map_id bs
  have all : (bs.map PyData.int).all isCnt = true := List.all_eq_true.mpr fun d m => by
    obtain ⟨n, mn, rfl⟩ := List.mem_map.mp m
    exact decide_eq_true (g.pos n mn)
  cases bs with
  | nil => exact absurd g.zero List.not_mem_nil
  | cons h r =>
    have h1 : h ≤ 0 := hi_le (r := h :: r) g.rise g.zero
    have h2 := g.pos h List.mem_cons_self
    rw [List.map_cons] at e all ⊢
    rw [areL_cons, all, e, consec_of g.rise, Bool.true_and, Bool.and_true]
    exact decide_eq_true (show h = 0 by omega)
theorem snd_self (s : Snd) : PyData.eqv s.d s.d = true := eqv_self (snd_nice s (n := 1)).nd
theorem eqv_snd {s t : Snd} : PyData.eqv s.d t.d = PyData.eqv t.d s.d := by
  have told : PyData.eqv s.toldD t.toldD = PyData.eqv t.toldD s.toldD := by
    have hs : s.toldD = .none ∨ ∃ n, s.toldD = .int n := by
      unfold Snd.toldD
      cases s.way <;> first | exact Or.inl rfl | exact Or.inr ⟨_, rfl⟩
    have ht : t.toldD = .none ∨ ∃ n, t.toldD = .int n := by
      unfold Snd.toldD
      cases t.way <;> first | exact Or.inl rfl | exact Or.inr ⟨_, rfl⟩
    rcases hs with e | ⟨n, e⟩ <;> rcases ht with f | ⟨k, f⟩ <;> rw [e, f]
    · simp [PyData.eqv]
    · simp [PyData.eqv]
    · rw [eqv_int, eqv_int]
      exact decide_eq_decide.mpr ⟨Eq.symm, Eq.symm⟩
  unfold Snd.d
  simp only [PyData.eqv, PyData.eqvAll]
  rw [told]
  have cI : ∀ a b : Int, (a == b) = (b == a) := fun a b => Bool.beq_comm
  have cS : ∀ a b : Str, (a == b) = (b == a) := fun a b => Bool.beq_comm
  rw [cI s.meant, cS s.way.s, cI s.units, cS s.en.s]
theorem one_lo {d : PyData} (h : Lo d) : ShowsO d := ⟨h.ok, h.rp.sh, Nat.le_trans h.rp.sz (sz_small (by decide)), Nat.le_trans h.dp (by decide)⟩
theorem lo_t {ds : List PyData} (h : ∀ d ∈ ds, At d) (l : ds.length ≤ 20) : Lo (.tuple ds) := by
  refine ⟨okDAll_iff.mpr fun x hx => (h x hx).ok, (RP.tuple (RPs.all (n := 200) fun d hd => (h d hd).rp)).up ?_, ?_⟩
  · have : ds.length * 202 ≤ 20 * 202 := Nat.mul_le_mul_right _ l
    show ds.length * 202 + 2 ≤ 20000
    omega
  · simp only [PyData.depth]
    have := depthAll_le (n := 3) fun d hd => (h d hd).dp
    omega
theorem lo_l {ds : List PyData} (h : ∀ d ∈ ds, At d) (l : ds.length ≤ 20) : Lo (.list ds) := by
  refine ⟨okDAll_iff.mpr fun x hx => (h x hx).ok, (RP.list (RPs.all (n := 200) fun d hd => (h d hd).rp)).up ?_, ?_⟩
  · have : ds.length * 202 ≤ 20 * 202 := Nat.mul_le_mul_right _ l
    show ds.length * 202 + 2 ≤ 20000
    omega
  · simp only [PyData.depth]
    have := depthAll_le (n := 3) fun d hd => (h d hd).dp
    omega
structure Odd (d : PyData) : Prop where
  no : isSnd d = false
  lo : Lo d
theorem lo_at {d : PyData} (h : At d) : Lo d := ⟨h.ok, h.rp.up (by decide), Nat.le_trans h.dp (by decide)⟩
theorem at_way (w : Way) : At (.str w.s) := at_str (by cases w <;> decide +kernel) (by cases w <;> decide)
theorem at_en (e : En) : At (.str e.s) := at_str (by cases e <;> decide +kernel) (by cases e <;> decide)
theorem shut_no (w : Way) : strIn (.str "Shut") (endsOf w.s) = false := by cases w <;> decide
theorem odd_all {m u : Int} {w : Way} {t : PyData} {e : En} (hm : At (.int m)) (hu : At (.int u)) (ht : At t) : ∀ d ∈ [PyData.tuple [.bool true, .str "marks", .none, .bool true, .str "mark"], .tuple [.int 0, .str "close", .none, .bool false, .str "shut"], .none, .tuple [], .list [.int m, .str w.s, t, .int u, .str e.s], .tuple (cutD [.int m, .str w.s, t, .int u, .str e.s] none (some 4)), .tuple [.int m, .str w.s, t, .int u, .str "Shut"], .str "x"], Odd d := by
  have sS : At (.str "Shut") := at_str (by decide +kernel) (by decide)
  have ec : cutD [.int m, .str w.s, t, .int u, .str e.s] none (some 4) = [.int m, .str w.s, t, .int u] := rfl
  rw [ec]
  intro d hd
  simp only [List.mem_cons, List.not_mem_nil, or_false] at hd
  rcases hd with rfl | rfl | rfl | rfl | rfl | rfl | rfl | rfl
  · refine ⟨rfl, lo_t (fun d hd => ?_) (by show 5 ≤ 20; decide)⟩
    simp only [List.mem_cons, List.not_mem_nil, or_false] at hd
    rcases hd with rfl | rfl | rfl | rfl | rfl
    · exact at_bool true
    · exact at_way .marks
    · exact at_none
    · exact at_bool true
    · exact at_en .mark
  · refine ⟨rfl, lo_t (fun d hd => ?_) (by show 5 ≤ 20; decide)⟩
    simp only [List.mem_cons, List.not_mem_nil, or_false] at hd
    rcases hd with rfl | rfl | rfl | rfl | rfl
    · exact at_int (by decide)
    · exact at_way .close
    · exact at_none
    · exact at_bool false
    · exact at_en .shut
  · exact ⟨rfl, lo_at at_none⟩
  · exact ⟨rfl, lo_t (fun d hd => absurd hd List.not_mem_nil) (by decide)⟩
  · refine ⟨rfl, lo_l (fun d hd => ?_) (by show 5 ≤ 20; decide)⟩
    simp only [List.mem_cons, List.not_mem_nil, or_false] at hd
    rcases hd with rfl | rfl | rfl | rfl | rfl
    · exact hm
    · exact at_way w
    · exact ht
    · exact hu
    · exact at_en e
  · refine ⟨rfl, lo_t (fun d hd => ?_) (by show 4 ≤ 20; decide)⟩
    simp only [List.mem_cons, List.not_mem_nil, or_false] at hd
    rcases hd with rfl | rfl | rfl | rfl
    · exact hm
    · exact at_way w
    · exact ht
    · exact hu
  · refine ⟨?_, lo_t (fun d hd => ?_) (by show 5 ≤ 20; decide)⟩
    · show (isCnt (.int m) && (strIn (.str w.s) ways && (decide (0 ≤ u) && (toldOk w.s t u && strIn (.str "Shut") (endsOf w.s))))) = false
      rw [shut_no]
      simp
    · simp only [List.mem_cons, List.not_mem_nil, or_false] at hd
      rcases hd with rfl | rfl | rfl | rfl | rfl
      · exact hm
      · exact at_way w
      · exact ht
      · exact hu
      · exact sS
  · exact ⟨rfl, lo_at (at_str (by decide +kernel) (by decide))⟩
theorem at_cnt {i : Int} (h : 0 ≤ i ∧ i ≤ 1000000000000) : At (.int i) := at_int (by omega)
theorem at_told {s : Snd} (h : s.ok) : At s.toldD := by
  have h2 := h.u
  have h3 := h.t
  unfold Snd.toldD
  cases hw : s.way with
  | length => exact at_cnt ⟨Int.le_trans h2.1 (h3 hw).1, (h3 hw).2⟩
  | marks => exact at_none
  | close => exact at_none
end K20

set_option Elab.async false
set_option linter.all false
set_option maxRecDepth 100000
set_option maxHeartbeats 1000000
namespace K20
open PySem PySem.Spec PyProof.Rows L2 Cr
open Dr
local macro_rules | `(tactic| walk_at "wp") => `(tactic| simp only [wpSeq, ws_asgN', ws_asgT', ws_asgO', ws_par', ws_app', ws_ext', ws_setL', ws_ifs', ws_for_', ws_whl', ws_ret', ws_retO', ws_retN', ws_brk', ws_cnt', ws_pas', ws_exs', ws_rse0', ws_rse1', ws_frz', vw_d', vw_r', we_cst', we_var', we_glb', we_tup', we_lst', we_dct0', we_bin', we_cmp', we_neg', we_not', we_and', we_or', we_tru', we_ifx', we_idx', we_cut', we_bi', we_isi', we_fn', we_fnP', we_lc', we_lc2', we_rng', we_enu', we_viewT', we_zip', we_view', we_idxO', we_cmp2', we_sset', we_dget', we_get2', we_enuT', wl_nil', wl_cons', wa_one', wa_two', wo_one', wo_two', wi_nil', wi_cons', wq_none', wq_some', w_asD_d', w_asD_o', w_asB_b', w_asI_i', w_asS_l', w_asS_t', w_asS_o', w_keep_d', w_keep_o', w_keep_r', thaw, List.getElem?_cons_zero, List.getElem?_cons_succ, List.set_cons_zero, List.set_cons_succ, List.map_cons, List.map_nil, tgW, tgL, w_c_lt', w_c_le', w_c_gt', w_c_ge', w_c_eqI', w_c_neI', w_c_eqS', w_c_neS', w_c_isB', w_c_isnB', w_c_is, w_c_isn, w_o_add', w_o_sub', w_o_cat', w_o_catT', w_o_mul', w_o_mod', w_o_div', w_o_pow', w_x_list', w_x_tup', w_u_list', w_u_tup', w_f_lenL', w_f_lenT', w_f_max', w_f_min', w_f_int', w_f_intB', w_f_repr', w_f_tup', w_f_list', w_f_listT', w_z_list', w_z_tup', truW, if_true, Bool.false_eq_true, if_false, Bool.not_eq_true', Option.some.injEq, exists_eq_left', exists_eq_left, wipeS, slotsT, slotsL, List.cons_append, List.nil_append])
local macro_rules | `(tactic| walk_at "st") => `(tactic| ((first | rw [w_seq_cons'] | (simp only [w_seq_nil']; rw [w_seq_cons']) | (simp only [w_keep_o', w_keep_d', w_keep_r', w_asD_d', w_asD_o', w_asB_b', w_seq_nil', List.set_cons_zero, List.set_cons_succ]; rw [w_seq_cons'])); simp only [ws_asgN', ws_asgT', ws_asgO', ws_par', ws_app', ws_ext', ws_setL', ws_ifs', ws_for_', ws_whl', ws_ret', ws_retO', ws_retN', ws_brk', ws_cnt', ws_pas', ws_exs', ws_rse0', ws_rse1', ws_frz', vw_d', vw_r', we_cst', we_var', we_glb', we_tup', we_lst', we_dct0', we_bin', we_cmp', we_neg', we_not', we_and', we_or', we_tru', we_ifx', we_idx', we_cut', we_bi', we_isi', we_fn', we_fnP', we_lc', we_lc2', we_rng', we_enu', we_viewT', we_zip', we_view', we_idxO', we_cmp2', we_sset', we_dget', we_get2', we_enuT', wl_nil', wl_cons', wa_one', wa_two', wo_one', wo_two', wi_nil', wi_cons', wq_none', wq_some', w_asD_d', w_asD_o', w_asB_b', w_asI_i', w_asS_l', w_asS_t', w_asS_o', w_keep_d', w_keep_o', w_keep_r', thaw, List.getElem?_cons_zero, List.getElem?_cons_succ, List.set_cons_zero, List.set_cons_succ, List.map_cons, List.map_nil, tgW, tgL, w_c_lt', w_c_le', w_c_gt', w_c_ge', w_c_eqI', w_c_neI', w_c_eqS', w_c_neS', w_c_isB', w_c_isnB', w_c_is, w_c_isn, w_o_add', w_o_sub', w_o_cat', w_o_catT', w_o_mul', w_o_mod', w_o_div', w_o_pow', w_x_list', w_x_tup', w_u_list', w_u_tup', w_f_lenL', w_f_lenT', w_f_max', w_f_min', w_f_int', w_f_intB', w_f_repr', w_f_tup', w_f_list', w_f_listT', w_z_list', w_z_tup', truW, if_true, Bool.false_eq_true, if_false, Bool.not_eq_true', Option.some.injEq, exists_eq_left', exists_eq_left, wipeS, slotsT, slotsL, List.cons_append, List.nil_append]))
local macro_rules | `(tactic| walk_at "ex") => `(tactic| simp only [vw_d', vw_r', we_cst', we_var', we_glb', we_tup', we_lst', we_dct0', we_bin', we_cmp', we_neg', we_not', we_and', we_or', we_tru', we_ifx', we_idx', we_cut', we_bi', we_isi', we_fn', we_fnP', we_lc', we_lc2', we_rng', we_enu', we_viewT', we_zip', we_view', we_idxO', we_cmp2', we_sset', we_dget', we_get2', we_enuT', wl_nil', wl_cons', wa_one', wa_two', wo_one', wo_two', wi_nil', wi_cons', wq_none', wq_some', w_asD_d', w_asD_o', w_asB_b', w_asI_i', w_asS_l', w_asS_t', w_asS_o', w_keep_d', w_keep_o', w_keep_r', thaw, List.getElem?_cons_zero, List.getElem?_cons_succ, List.set_cons_zero, List.set_cons_succ, List.map_cons, List.map_nil, tgW, tgL, w_c_lt', w_c_le', w_c_gt', w_c_ge', w_c_eqI', w_c_neI', w_c_eqS', w_c_neS', w_c_isB', w_c_isnB', w_c_is, w_c_isn, w_o_add', w_o_sub', w_o_cat', w_o_catT', w_o_mul', w_o_mod', w_o_div', w_o_pow', w_x_list', w_x_tup', w_u_list', w_u_tup', w_f_lenL', w_f_lenT', w_f_max', w_f_min', w_f_int', w_f_intB', w_f_repr', w_f_tup', w_f_list', w_f_listT', w_z_list', w_z_tup', truW, if_true, Bool.false_eq_true, if_false, Bool.not_eq_true', Option.some.injEq, exists_eq_left', exists_eq_left, wipeS, slotsT, slotsL, List.cons_append, List.nil_append])
def gL (p c : Addr) (ms : List Int) : Dr.GI := ⟨[("_law_below", ⟨2, ["pot", "bound"], true, ctD PreB RnB⟩), ("_law_bounds", ⟨1, ["relays"], false, ctBo⟩), ("bounds_of", ⟨6, ["relays"], false, ctBo⟩), ("_law_some_sending", ⟨5, ["pot", "some"], true, ctD PreV RnS⟩), ("standing", ⟨6, ["sending", "bounds"], false, ctSg⟩), ("_law_some_relay", ⟨4, ["pot", "some"], true, ctD PreRel RnRel⟩), ("_law_standing", ⟨1, ["sending", "bounds"], false, ctF grLs⟩), ("is_standing", ⟨6, ["thing", "bounds"], false, ctIs⟩)], [], some (p, c, ms), []⟩
theorem each_rel {ds xs : List PyData} (h : Each (fun _ x => RnRel [] x) ds xs) : ∃ qs : List Rl, xs = qs.map Rl.d ∧ (∀ q ∈ qs, q.ok) := by
  induction h with
  | nil => exact ⟨[], rfl, fun q m => absurd m List.not_mem_nil⟩
  | cons a _ ih =>
    obtain ⟨q, hq, rfl⟩ := a
    obtain ⟨qs, rfl, h⟩ := ih
    exact ⟨q :: qs, rfl, fun r m => by
      rcases List.mem_cons.mp m with e | m
      · rw [e]
        exact hq
      · exact h r m⟩
theorem k_law (a p c : Addr) (ms : List Int) : wpSeq (wp1 (gL p c ms) 30) B_law [.raw (.ref a), .raw (.ref p), .any, .any, .any, .any, .any, .any, .any, .any, .any, .any, .any, .any, .any] lawP := by
  unfold B_law gL
  walk_at "st"
  refine ⟨⟨by decide, by decide⟩, for_rng (n := 14) (fun _ e => ∃ x2 x3 x4 x5 x6 x7 x8 x9 x10 x11 x12 x13 x14, e = [.raw (.ref a), .raw (.ref p), x2, x3, x4, x5, x6, x7, x8, x9, x10, x11, x12, x13, x14]) ⟨_, _, _, _, _, _, _, _, _, _, _, _, _, rfl⟩ ?_ ?_⟩
  · rintro e ⟨x2, x3, x4, x5, x6, x7, x8, x9, x10, x11, x12, x13, x14, rfl⟩
    walk_at "st"
    rfl
  rintro i e N hi ih ⟨x2, x3, x4, x5, x6, x7, x8, x9, x10, x11, x12, x13, x14, rfl⟩
  walk_at "ex"
  walk_at "st"
  refine ⟨trivial, ⟨by decide, by decide, by decide⟩, Or.inl ⟨by decide, by decide⟩, ⟨_, rfl, by decide, by decide⟩, ?_⟩
  intro r hr
  obtain ⟨st, rfl, s0, s1⟩ := hr _ rfl
  have e8 : (9 : Int) * 10 ^ Int.toNat 8 = 900000000 := by decide
  rw [e8] at s1
  walk_at "st"
  walk_at "st"
  refine ⟨trivial, ⟨_, rfl, by decide, by decide⟩, ?_⟩
  intro r hr
  obtain ⟨n, rfl, n0, n1⟩ := hr _ rfl
  walk_at "ex"
  have hsome : ∀ x ∈ [0, 1, 2, 4, st, st + 1, st + 3, st + 9], 0 ≤ x ∧ x ≤ 1000000000000 := by
    intro x hx
    simp only [List.mem_cons, List.not_mem_nil, or_false] at hx
    omega
  refine ⟨⟨by omega, by omega⟩, lc_rel (fun _ x => RnRel [] x) (fun d m C C' h => ?_) (by rw [List.length_nil, List.length_map, List.length_range]; omega) fun xs hx => ?_⟩
  · walk_at "ex"
    exact ⟨trivial, ⟨[0, 1, 2, 4, st, st + 1, st + 3, st + 9], rfl, by show 8 ≤ 900000; decide, hsome⟩, fun r hr => h r hr⟩
  have hlen := hx.len
  rw [List.length_map, List.length_range] at hlen
  obtain ⟨qs, rfl, hq⟩ := each_rel hx
  rw [List.length_map] at hlen
  rw [List.nil_append]
  walk_at "st"
  refine ⟨qs, rfl, hq, by omega, fun bs b1 b2 => ?_⟩
  walk_at "st"
  refine ⟨qs, rfl, hq, by omega, fun bs' b1' b2' => ?_⟩
  obtain rfl : bs' = bs := Dr.rise_eq b1' b1 fun k => (b2' k).trans (b2 k).symm
  walk_at "ex"
  refine cmpW_nn (nice_ints _) (nice_ints _) ?_
  refine if_no (by rw [eqv_self (nice_ints _).nd]; exact fun z => nomatch z) ?_
  have hbs : ∀ b ∈ bs', 0 ≤ b ∧ b ≤ 1000000000000 := fun b m => by
    rcases (b2 b).mp m with e | m
    · omega
    · obtain ⟨q, mq, mb⟩ := List.mem_flatMap.mp m
      have hok := hq q mq
      unfold sizesOf at mb
      rcases List.mem_append.mp mb with mb | mb
      · exact hok.h b (Option.mem_toList.mp mb)
      · exact hok.l b (Option.mem_toList.mp mb)
  have g : Good bs' := ⟨b1, (b2 0).mpr (Or.inl rfl), fun b m => (hbs b m).1⟩
  have bl : bs'.length ≤ 20 := by
    have := rise_len (vs := 0 :: qs.flatMap sizesOf) b1 fun k m => List.mem_cons.mpr ((b2 k).mp m)
    have h2 := sizes_len qs
    rw [List.length_cons] at this
    omega
  have lob : Lo (.list (bs'.map .int)) := lo_ints hbs (by omega)
  have bL : ∀ l, seqD (.list (bs'.map .int)) = some l → l.length ≤ 1000 := fun l e => by
    cases e
    rw [List.length_map]
    omega
  have bT : ∀ l, seqD (.tuple (bs'.map .int)) = some l → l.length ≤ 1000 := fun l e => by
    cases e
    rw [List.length_map]
    omega
  have aL : areB (.list (bs'.map .int)) = true := good_areL g
  have aT : areB (.tuple (bs'.map .int)) = true := good_areL g
  clear b1 b2 b1' b2' hq hx
  walk_at "st"
  refine ⟨⟨by decide, by decide⟩, for_rng (n := 4) (fun _ e => ∃ x7 x8 x9 x10 x11 x12 x13 x14, e = [.raw (.ref a), .raw (.ref p), .dat (.int (i : Nat)), .dat (.int st), .dat (.list [.int 0, .int 1, .int 2, .int 4, .int st, .int (st + 1), .int (st + 3), .int (st + 9)]), .dat (.tuple (qs.map Rl.d)), .dat (.list (bs'.map .int)), x7, x8, x9, x10, x11, x12, x13, x14]) ⟨_, _, _, _, _, _, _, _, rfl⟩ ?_ ?_⟩
  · rintro e ⟨x7, x8, x9, x10, x11, x12, x13, x14, rfl⟩
    walk_at "ex"
    exact ih _ ⟨_, _, _, _, _, _, _, _, _, _, _, _, _, rfl⟩
  rintro j e N2 hj ih2 ⟨x7, x8, x9, x10, x11, x12, x13, x14, rfl⟩
  walk_at "ex"
  walk_at "st"
  refine ⟨trivial, ⟨[0, 1, 2, 4, st, st + 1, st + 3, st + 9], rfl, by show 0 < 8; decide, by show 8 ≤ 1000000; decide⟩, ?_⟩
  rintro r ⟨s, so, rfl⟩
  have so2 := at_ok g so
  have hv := vals_pos so
  have hv2 := vals_pos so2
  have idm := at_idem g hv
  walk_at "st"
  refine ⟨_, ⟨s, bs', rfl, g, fun v m => ⟨hv v m, ?_⟩, by omega, rfl⟩, ?_⟩
  · have h1 := so.m
    have h2 := so.u
    have h3 := so.t
    obtain ⟨m0, w0, t0, u0, en0⟩ := s
    have h1 : 0 ≤ m0 ∧ m0 ≤ 1000000000000 := h1
    have h2 : 0 ≤ u0 ∧ u0 ≤ 1000000000000 := h2
    cases w0 <;> simp [Snd.vals] at m
    · have h3 : u0 ≤ t0 ∧ t0 ≤ 1000000000000 := h3 rfl
      rcases m with m | m | m <;> omega
    · rcases m with m | m <;> omega
    · rcases m with m | m <;> omega
  refine ⟨pair_lo (lo_snd so) lob, ?_⟩
  have hSg : ∀ (q : Snd) (b : PyData) (R : Sv → Prop) (X : Exc → Prop), q.ok → seqI b bs' → R (.dat (q.at bs').d) → ctSg [q.d, b] R X := by
    intro q b R X hq hb hR
    refine ⟨_, _, rfl, snd_okD q, by rcases hb with rfl | rfl; exact bL; exact bT, ?_⟩
    rw [if_pos (snd_isSnd hq), if_pos (by rcases hb with rfl | rfl; exact aL; exact aT)]
    exact ⟨q, bs', rfl, vals_pos hq, hb, g, hR⟩
  have hIs : ∀ (q : Snd) (b : PyData) (R : Sv → Prop) (X : Exc → Prop), q.ok → seqI b bs' → R (.dat (.bool (PyData.eqv (q.at bs').d q.d))) → ctIs [q.d, b] R X := by
    intro q b R X hq hb hR
    refine ⟨_, _, bs', rfl, snd_okD q, hb, g, by omega, ?_⟩
    rw [if_pos (snd_isSnd hq)]
    exact ⟨q, rfl, vals_pos hq, hR⟩
  have hNo : ∀ (d : PyData) (R : Sv → Prop) (X : Exc → Prop), isSnd d = false → okD d = true → R (.dat (.bool false)) → ctIs [d, .list (bs'.map .int)] R X := by
    intro d R X hd ho hR
    refine ⟨_, _, bs', rfl, ho, Or.inl rfl, g, by omega, ?_⟩
    rw [if_neg (by rw [hd]; exact Bool.false_ne_true)]
    exact hR
  have sd := lo_snd so
  have sd2 := lo_snd so2
  walk_at "st"
  refine hSg s _ _ _ so (Or.inl rfl) ?_
  walk_at "st"
  refine ⟨one_lo sd2, one_lo sd2, ?_⟩
  refine if_no (by simp) ?_
  refine hSg s _ _ _ so (Or.inr rfl) ?_
  walk_at "ex"
  refine cmpW_nn (snd_nice _ (n := 19)) (snd_nice _ (n := 19)) ?_
  refine if_no (by rw [snd_self]; exact fun z => nomatch z) ?_
  refine hSg _ _ _ _ so2 (Or.inl rfl) ?_
  walk_at "ex"
  rw [idm]
  refine cmpW_nn (snd_nice _ (n := 19)) (snd_nice _ (n := 19)) ?_
  refine if_no (by rw [snd_self]; exact fun z => nomatch z) ?_
  walk_at "st"
  refine hIs _ _ _ _ so2 (Or.inl rfl) ?_
  walk_at "ex"
  rw [idm, snd_self]
  refine if_no (by decide) ?_
  refine hIs _ _ _ _ so (Or.inl rfl) ?_
  walk_at "ex"
  refine cmpW_nice (snd_nice _ (n := 19)) (snd_nice _ (n := 19)) ?_
  refine cmpW_ne (Or.inl rfl) ?_
  refine if_no (by rw [eqv_snd, eqv_self (d := .bool _) rfl]; exact fun z => nomatch z) ?_
  have hm : rkF bs' (sortU s.vals) s.meant ≤ s.meant := rk_le so.m.1 (sortU_rise _)
  have hu : rkF bs' (sortU s.vals) s.units ≤ s.units := rk_le so.u.1 (sortU_rise _)
  walk_at "st"
  refine ⟨pair_lo sd lob, ?_⟩
  refine if_no (by simp) ?_
  refine ⟨_, rfl, _, rfl, ?_⟩
  walk_at "ex"
  refine if_no (fun z => Int.not_lt.mpr hm (of_decide_eq_true z)) ?_
  refine ⟨_, rfl, _, rfl, ?_⟩
  walk_at "ex"
  refine if_no (fun z => Int.not_lt.mpr hu (of_decide_eq_true z)) ?_
  walk_at "st"
  refine hIs _ _ _ _ so2 (Or.inr rfl) ?_
  walk_at "ex"
  rw [idm, snd_self]
  refine if_no (by decide) ?_
  walk_at "st"
  have odds := odd_all (m := (s.at bs').meant) (u := (s.at bs').units) (w := s.way) (t := (s.at bs').toldD) (e := s.en) (at_cnt so2.m) (at_cnt so2.u) (at_told so2)
  rw [show (s.at bs').d = .tuple [.int (s.at bs').meant, .str s.way.s, (s.at bs').toldD, .int (s.at bs').units, .str s.en.s] from rfl]
  generalize (s.at bs').meant = M at odds ⊢
  generalize (s.at bs').units = U at odds ⊢
  generalize (s.at bs').toldD = T at odds ⊢
  walk_at "st"
  refine ⟨_, rfl, _, rfl, _, rfl, _, rfl, by show 8 ≤ 16777216; decide, for_ind (J := fun ps e => (∀ d ∈ ps, Odd d) ∧ ∃ y11 y14, e = [.raw (.ref a), .raw (.ref p), .dat (.int (i : Nat)), .dat (.int st), .dat (.list [.int 0, .int 1, .int 2, .int 4, .int st, .int (st + 1), .int (st + 3), .int (st + 9)]), .dat (.tuple (qs.map Rl.d)), .dat (.list (bs'.map .int)), .dat (.int (j : Nat)), .dat s.d, .dat (.tuple [.int M, .str s.way.s, T, .int U, .str s.en.s]), .dat (.list [.tuple [.bool true, .str "marks", .none, .bool true, .str "mark"], .tuple [.int 0, .str "close", .none, .bool false, .str "shut"]]), y11, .dat (.tuple [.int M, .str s.way.s, T, .int U, .str s.en.s]), .dat (.str (PyData.tuple [s.d, .list (bs'.map .int)]).shown), y14]) ?_ ?_ _ _ ⟨odds, _, _, rfl⟩⟩
  · rintro e ⟨_, y11, y14, rfl⟩
    exact ih2 _ ⟨_, _, _, _, _, _, _, _, rfl⟩
  rintro d ps e N3 ih3 ⟨ho, y11, y14, rfl⟩
  obtain ⟨h1, h2⟩ := ho d List.mem_cons_self
  walk_at "ex"
  walk_at "st"
  refine ⟨pair_lo h2 lob, ?_⟩
  walk_at "st"
  refine hNo d _ _ h1 h2.ok ?_
  walk_at "ex"
  refine if_no (by simp) ?_
  refine ⟨pair_lo h2 lob, ?_⟩
  refine if_no (by simp) ?_
  exact ih3 _ ⟨fun d m => ho d (List.mem_cons_of_mem _ m), _, _, rfl⟩
end K20

set_option Elab.async false
set_option linter.all false
set_option maxRecDepth 100000
set_option maxHeartbeats 4000000
namespace K20
open PySem PySem.Spec PyProof.Rows L2 Cr Dr
theorem sc_check_chain : FnScope N_check_chain P_check_chain (defScope s_check_chain) := ⟨rfl, rfl, rfl, by decide +kernel, rfl, by decide +kernel, by decide +kernel⟩
theorem hc_check_chain : ∀ t, chkSeq (chk1 { gCh with pot := t } N_check_chain (defScope s_check_chain) 30) B_check_chain (defBody s_check_chain) = true := fun t => by kernel_rfl
theorem sc_check_sending : FnScope N_check_sending P_check_sending (defScope s_check_sending) := ⟨rfl, rfl, rfl, by decide +kernel, rfl, by decide +kernel, by decide +kernel⟩
theorem hc_check_sending : ∀ t, chkSeq (chk1 { gCs with pot := t } N_check_sending (defScope s_check_sending) 30) B_check_sending (defBody s_check_sending) = true := fun t => by kernel_rfl
theorem sc_bounds_of : FnScope N_bounds_of P_bounds_of (defScope s_bounds_of) := ⟨rfl, rfl, rfl, by decide +kernel, rfl, by decide +kernel, by decide +kernel⟩
theorem hc_bounds_of : ∀ t, chkSeq (chk1 { gBo with pot := t } N_bounds_of (defScope s_bounds_of) 30) B_bounds_of (defBody s_bounds_of) = true := fun t => by kernel_rfl
theorem sc_check_bounds : FnScope N_check_bounds P_check_bounds (defScope s_check_bounds) := ⟨rfl, rfl, rfl, by decide +kernel, rfl, by decide +kernel, by decide +kernel⟩
theorem hc_check_bounds : ∀ t, chkSeq (chk1 { gCb with pot := t } N_check_bounds (defScope s_check_bounds) 30) B_check_bounds (defBody s_check_bounds) = true := fun t => by kernel_rfl
theorem sc_are_bounds : FnScope N_are_bounds P_are_bounds (defScope s_are_bounds) := ⟨rfl, rfl, rfl, by decide +kernel, rfl, by decide +kernel, by decide +kernel⟩
theorem hc_are_bounds : ∀ t, chkSeq (chk1 { gAb with pot := t } N_are_bounds (defScope s_are_bounds) 30) B_are_bounds (defBody s_are_bounds) = true := fun t => by kernel_rfl
theorem sc_standing : FnScope N_standing P_standing (defScope s_standing) := ⟨rfl, rfl, rfl, by decide +kernel, rfl, by decide +kernel, by decide +kernel⟩
theorem hc_standing : ∀ t, chkSeq (chk1 { gSg with pot := t } N_standing (defScope s_standing) 30) B_standing (defBody s_standing) = true := fun t => by kernel_rfl
theorem sc_is_standing : FnScope N_is_standing P_is_standing (defScope s_is_standing) := ⟨rfl, rfl, rfl, by decide +kernel, rfl, by decide +kernel, by decide +kernel⟩
theorem hc_is_standing : ∀ t, chkSeq (chk1 { gIs with pot := t } N_is_standing (defScope s_is_standing) 30) B_is_standing (defBody s_is_standing) = true := fun t => by kernel_rfl
theorem sc_settled : FnScope N_settled P_settled (defScope s_settled) := ⟨rfl, rfl, rfl, by decide +kernel, rfl, by decide +kernel, by decide +kernel⟩
theorem hc_settled : ∀ t, chkSeq (chk1 { gSt with pot := t } N_settled (defScope s_settled) 30) B_settled (defBody s_settled) = true := fun t => by kernel_rfl
theorem sc_pushed_down : FnScope N_pushed_down P_pushed_down (defScope s_pushed_down) := ⟨rfl, rfl, rfl, by decide +kernel, rfl, by decide +kernel, by decide +kernel⟩
theorem hc_pushed_down : ∀ t, chkSeq (chk1 { gPd with pot := t } N_pushed_down (defScope s_pushed_down) 30) B_pushed_down (defBody s_pushed_down) = true := fun t => by kernel_rfl
theorem sc_law_standing : FnScope N_law_standing P_law_standing (defScope s_law_standing) := ⟨rfl, rfl, rfl, by decide +kernel, rfl, by decide +kernel, by decide +kernel⟩
theorem hc_law_standing : ∀ t, chkSeq (chk1 { gLs with pot := t } N_law_standing (defScope s_law_standing) 30) B_law_standing (defBody s_law_standing) = true := fun t => by kernel_rfl
theorem sc_law_bounds : FnScope N_law_bounds P_law_bounds (defScope s_law_bounds) := ⟨rfl, rfl, rfl, by decide +kernel, rfl, by decide +kernel, by decide +kernel⟩
theorem hc_law_bounds : ∀ t, chkSeq (chk1 { gLb with pot := t } N_law_bounds (defScope s_law_bounds) 30) B_law_bounds (defBody s_law_bounds) = true := fun t => by kernel_rfl
theorem sc_law : FnScope ("script" :: "pot" :: N_law.drop 2) ["script"] (defScope s_law) := ⟨rfl, rfl, rfl, by decide +kernel, rfl, by decide +kernel, by decide +kernel⟩
def gL0 : Dr.GI := { gL 0 0 [] with pot := none }
theorem hc_law : ∀ t, chkSeq (chk1 { gL0 with pot := t } ("script" :: "pot" :: N_law.drop 2) (defScope s_law) 30) B_law (defBody s_law).tail = true := fun t => by kernel_rfl
end K20

set_option Elab.async false
set_option linter.all false
set_option maxRecDepth 100000
set_option maxHeartbeats 4000000
namespace K20
open PySem PySem.Spec PyProof.Rows L2 Cr Dr
def ConT (K : PySem.W.Frag) (x : Str) (ss : List Str) : Prop := ∃ a : Addr, PySem.W.nsIn K mainGlobals x = some (some (.ref a)) ∧ DC K (.ref a) (.tuple (ss.map .str))
theorem conT_mk {K : PySem.W.Frag} {x : Str} {ss : List Str} {a : Addr} {dd : Option Addr} {its : Array Value} {n : Nat} {sl : Array (Option Value)} (g : PySem.W.nsIn K mainGlobals x = some (some (.ref a))) (l : K.lookup a = some ⟨.type "tuple", dd, .seq its n, sl⟩) (h : strsB its.toList ss = true) (z : its.size ≤ 1000) : ConT K x ss :=
  ⟨a, g, dc_tup l h z⟩
def ConI (K : PySem.W.Frag) (x : Str) (i : Int) : Prop := ∃ t, PySem.W.nsIn K mainGlobals x = some (some (.int i t))
theorem conI_mk {K : PySem.W.Frag} {x : Str} {i : Int} {t} (g : PySem.W.nsIn K mainGlobals x = some (some (.int i t))) : ConI K x i := ⟨t, g⟩
def KeyB (P : Params) : List DictEntry → List Str → Prop
  | [], [] => True
  | e :: r, k :: ks => (∃ t, e.key = .str k t) ∧ e.hash = PyData.keyHash P k ∧ KeyB P r ks
  | _, _ => False
theorem keyB_lit {P : Params} : ∀ {l : List DictEntry} {ks : List Str}, KeyB P l ks → PySem.W.KeysLit P l
  | [], [], _ => trivial
  | _ :: _, _ :: _, ⟨⟨t, a⟩, b, c⟩ => ⟨⟨_, t, a, b⟩, keyB_lit c⟩
  | [], _ :: _, h => h.elim
  | _ :: _, [], h => h.elim
def EndsD (K : PySem.W.Frag) (w : World) : Prop := ∃ aE : Addr, PySem.W.nsIn K mainGlobals "ENDS_OF" = some (some (.ref aE)) ∧ ∀ y : Way, ∃ v, KDct K w aE y.s v ∧ DC K v (.tuple ((endsOf y.s).map .str))
theorem endsD_mk {K : PySem.W.Frag} {w : World} {aE a1 a2 a3 : Addr} {es : Array DictEntry} {n : Nat} {d1 d2 d3 : Option Addr} {i1 i2 i3 : Array Value} {n1 n2 n3 : Nat} {s1 s2 s3 : Array (Option Value)}
    (g : PySem.W.nsIn K mainGlobals "ENDS_OF" = some (some (.ref aE))) (l : K.lookup aE = some ⟨.type "dict", none, .dict es n, #[]⟩) (kl : PySem.W.KeysLit w.params es.toList)
    (g1 : PySem.W.nsIn K aE "length" = some (some (.ref a1))) (g2 : PySem.W.nsIn K aE "marks" = some (some (.ref a2))) (g3 : PySem.W.nsIn K aE "close" = some (some (.ref a3)))
    (l1 : K.lookup a1 = some ⟨.type "tuple", d1, .seq i1 n1, s1⟩) (l2 : K.lookup a2 = some ⟨.type "tuple", d2, .seq i2 n2, s2⟩) (l3 : K.lookup a3 = some ⟨.type "tuple", d3, .seq i3 n3, s3⟩)
    (h1 : strsB i1.toList ["open", "shut"] = true) (h2 : strsB i2.toList ["mark", "open", "shut"] = true) (h3 : strsB i3.toList ["open", "shut"] = true) (z1 : i1.size ≤ 1000) (z2 : i2.size ≤ 1000) (z3 : i3.size ≤ 1000) : EndsD K w := by
  refine ⟨aE, g, fun y => ?_⟩
  cases y with
  | length =>
    refine ⟨.ref a1, ⟨es, n, _, l, kl, g1, rfl⟩, ?_⟩
    have e : endsOf Way.length.s = (["open", "shut"] : List Str) := by decide
    rw [e]
    exact dc_tup l1 h1 z1
  | marks =>
    refine ⟨.ref a2, ⟨es, n, _, l, kl, g2, rfl⟩, ?_⟩
    have e : endsOf Way.marks.s = (["mark", "open", "shut"] : List Str) := by decide
    rw [e]
    exact dc_tup l2 h2 z2
  | close =>
    refine ⟨.ref a3, ⟨es, n, _, l, kl, g3, rfl⟩, ?_⟩
    have e : endsOf Way.close.s = (["open", "shut"] : List Str) := by decide
    rw [e]
    exact dc_tup l3 h3 z3

def BltIn (K : PySem.W.Frag) : Prop := ∀ x ∈ bltNames, PySem.W.nsIn K mainGlobals x = some none
theorem blt_mk {K : PySem.W.Frag} (z0 : PySem.W.nsIn K mainGlobals "len" = some none) (z1 : PySem.W.nsIn K mainGlobals "int" = some none) (z2 : PySem.W.nsIn K mainGlobals "abs" = some none) (z3 : PySem.W.nsIn K mainGlobals "max" = some none) (z4 : PySem.W.nsIn K mainGlobals "min" = some none) (z5 : PySem.W.nsIn K mainGlobals "repr" = some none) (z6 : PySem.W.nsIn K mainGlobals "tuple" = some none) (z7 : PySem.W.nsIn K mainGlobals "list" = some none) (z8 : PySem.W.nsIn K mainGlobals "sum" = some none) (z9 : PySem.W.nsIn K mainGlobals "str" = some none) (z10 : PySem.W.nsIn K mainGlobals "any" = some none) (z11 : PySem.W.nsIn K mainGlobals "all" = some none) (z12 : PySem.W.nsIn K mainGlobals "isinstance" = some none) (z13 : PySem.W.nsIn K mainGlobals "range" = some none) (z14 : PySem.W.nsIn K mainGlobals "enumerate" = some none) (z15 : PySem.W.nsIn K mainGlobals "zip" = some none) (z16 : PySem.W.nsIn K mainGlobals "sorted" = some none) (z17 : PySem.W.nsIn K mainGlobals "set" = some none) (z18 : PySem.W.nsIn K mainGlobals "bool" = some none) (z19 : PySem.W.nsIn K mainGlobals "dict" = some none) : BltIn K := by
  intro x hx
  simp only [bltNames, List.mem_cons, List.not_mem_nil, or_false] at hx
  rcases hx with rfl | rfl | rfl | rfl | rfl | rfl | rfl | rfl | rfl | rfl | rfl | rfl | rfl | rfl | rfl | rfl | rfl | rfl | rfl | rfl
  · exact z0
  · exact z1
  · exact z2
  · exact z3
  · exact z4
  · exact z5
  · exact z6
  · exact z7
  · exact z8
  · exact z9
  · exact z10
  · exact z11
  · exact z12
  · exact z13
  · exact z14
  · exact z15
  · exact z16
  · exact z17
  · exact z18
  · exact z19
theorem conI_c {K : PySem.W.Frag} {h : Heap} {mg : Str → Option Value} (X : K.In h) (G : h.Ns mainGlobals mg) {x : Str} {i : Int} (c : ConI K x i) : ∃ u v, mg x = some u ∧ RelV v u ∧ DC K v (.int i) := by
  obtain ⟨t, g⟩ := c
  exact ⟨_, .int i, PySem.W.mg_of X G g, ⟨t, rfl⟩, fun _ _ => .int _⟩
structure DefsN (K : PySem.W.Frag) : Prop where
  check_chain : DefF K "check_chain" s_check_chain
  check_sending : DefF K "check_sending" s_check_sending
  bounds_of : DefF K "bounds_of" s_bounds_of
  check_bounds : DefF K "check_bounds" s_check_bounds
  are_bounds : DefF K "_are_bounds" s_are_bounds
  standing : DefF K "standing" s_standing
  is_standing : DefF K "is_standing" s_is_standing
  settled : DefF K "settled" s_settled
  pushed_down : DefF K "pushed_down" s_pushed_down
  law_standing : DefF K "_law_standing" s_law_standing
  law_bounds : DefF K "_law_bounds" s_law_bounds
  law : DefF K "law" s_law
structure DefsO (K : PySem.W.Frag) : Prop where
  sIsInt : DefF K "is_integer" sIsInt
  sIsCount : DefF K "is_count" sIsCount
  sIsSnd : DefF K "is_sending" sIsSnd
  sTold : DefF K "_told_fits" sTold
  sIsRel : DefF K "is_relay" sIsRel
  sIsSize : DefF K "_is_size" sIsSize
  sKnead : DefF K "_law_kneaded" sKnead
  sPotOf : DefF K "_law_pot_of" sPotOf
  sBelow : DefF K "_law_below" sBelow
  sPick : DefF K "_law_pick" sPick
  sSomeRel : DefF K "_law_some_relay" sSomeRel
  sValue : DefF K "_law_some_value" sValue
  sSending : DefF K "_law_some_sending" sSending
theorem ends {P : Program} {w : World} {K : PySem.W.Frag} {mg : Str → Option Value} {h : Heap} {fa : Addr} (X : K.In h) (G : h.Ns mainGlobals mg) (hfa : mg "law" = some (.ref fa)) (zb : BltIn K) (cH : ConI K "HOLD" 0) (cL : ConI K "LIMIT" 6) (c1 : ConT K "OVERS" overs) (c2 : ConT K "WAYS" ways) (c3 : ConT K "STREAMS" streams) (c4 : ConT K "CUTS" cuts) (c5 : ConT K "WAITS" waitsL) (c6 : ConT K "RESTS" rests) (dE : EndsD K w)
    (n : DefsN K) (d : DefsO K) (cR fI cS cB : Addr) (sI : SupIn P K "NoRelay" "no relay at " cR fI) (xS : ExcIn K "NoSending" cS) (xB : ExcIn K "NoBounds" cB) :
    ∃ fd : FuncData, (∀ (s : Shared) (u : Value), BindsTo s fd ⟨[u], []⟩ [("script", u)]) ∧ ∀ base : Heap, K.In base → base.Ns mainGlobals mg → (base.get? sysModules).isSome = true → FnG P w K mg base 7 fa fd ["script"] (spLaw K) := by
  have bl : MgOk mg := fun x hx => PySem.W.mg_none_of X G (zb x hx)
  have m : ∀ x, x ∈ bltNames → mg x = none := bl
  have ct : ∀ {x ss}, ConT K x ss → MG mg K x ss := fun ⟨a, g, z⟩ => ⟨a, PySem.W.mg_of X G g, z⟩
  refine law_mkS X G hfa n.law rfl (fun _ _ _ _ _ _ _ => rfl) fun base _ _ hs f fd Fu => ?_
  have T := sI.txt X G
  have TS := xS.txt X G
  have TB := xB.txt X G
  obtain ⟨cA, hA1, hA2, hA3⟩ : ∃ cA : Str → Value, cA "NoRelay" = .ref cR ∧ cA "NoSending" = .ref cS ∧ cA "NoBounds" = .ref cB := ⟨fun x => if x = "NoRelay" then .ref cR else if x = "NoSending" then .ref cS else .ref cB, rfl, rfl, rfl⟩
  have b1 : ∀ us : List Value, us.length = 1 → ∃ a, us = [a] := fun us h => match us, h with | [a], _ => ⟨a, rfl⟩
  have oI : Own P w K mg base _ 1 _ _ := own_mk X G d.sIsInt (fun _ _ _ _ _ _ us hl => match us, hl with | [_], _ => rfl) fun f fd Fu => ok_isInt Fu (m _ (by decide)) (m _ (by decide)) (m _ (by decide))
  have oC : Own P w K mg base _ 2 _ _ := own_mk X G d.sIsCount (fun _ _ _ _ _ _ us hl => match us, hl with | [_], _ => rfl) fun f fd Fu => ok_isCount Fu oI
  have oTo : Own P w K mg base _ 3 _ _ := own_mk X G d.sTold (fun _ _ _ _ _ _ us hl => match us, hl with | [_, _, _], _ => rfl) fun f fd Fu => ok_told Fu oC
  obtain ⟨aW, gW, cW⟩ := ct c2
  obtain ⟨aE, gE, cE⟩ := dE
  have oSn : Own P w K mg base _ 4 _ _ := own_mk X G d.sIsSnd (fun _ _ _ _ _ _ us hl => match us, hl with | [_], _ => rfl) fun f fd Fu => ok_isSnd Fu oC oTo hs gW cW (PySem.W.mg_of X G gE) cE (m _ (by decide)) (m _ (by decide)) (m _ (by decide))
  have oZ : Own P w K mg base _ 3 _ _ := own_mk X G d.sIsSize (fun _ _ _ _ _ _ us hl => match us, hl with | [_], _ => rfl) fun f fd Fu => ok_isSize Fu oC
  have gm : MGs mg K := ⟨ct c1, ct c2, ct c3, ct c4, ct c5, ct c6⟩
  have oQ : Own P w K mg base _ 4 _ _ := own_mk X G d.sIsRel (fun _ _ _ _ _ _ us hl => match us, hl with | [_], _ => rfl) fun f fd Fu => ok_isRel Fu oZ hs gm (m _ (by decide)) (m _ (by decide)) (m _ (by decide))
  have oK : Own P w K mg base _ 1 _ _ := own_mk X G d.sKnead (fun _ _ _ _ _ _ us hl => match us, hl with | [_, _], _ => rfl) fun f fd Fu => ok_knead Fu (m _ (by decide)) (m _ (by decide))
  have oPot : Own P w K mg base _ 1 _ _ := own_mk X G d.sPotOf (fun _ _ _ _ _ _ us hl => match us, hl with | [_], _ => rfl) fun f fd Fu => ok_potOf Fu (m _ (by decide)) (m _ (by decide))
  have oB : Own P w K mg base _ 2 _ _ := own_mk X G d.sBelow (fun _ _ _ _ _ _ us hl => match us, hl with | [_, _], _ => rfl) fun f fd Fu => ok_below Fu oK (m _ (by decide)) (m _ (by decide))
  have oP : Own P w K mg base _ 3 _ _ := own_mk X G d.sPick (fun _ _ _ _ _ _ us hl => match us, hl with | [_, _], _ => rfl) fun f fd Fu => ok_pick Fu oB (m _ (by decide))
  have oV : Own P w K mg base _ 4 _ _ := own_mk X G d.sValue (fun _ _ _ _ _ _ us hl => match us, hl with | [_, _], _ => rfl) fun f fd Fu => ok_value Fu oP (m _ (by decide)) (m _ (by decide))
  have oS : Own P w K mg base _ 5 _ _ := own_mk X G d.sSending (fun _ _ _ _ _ _ us hl => match us, hl with | [_, _], _ => rfl) fun f fd Fu => ok_sending Fu oV oP oB (m _ (by decide)) (m _ (by decide)) (m _ (by decide))
  have oSr : Own P w K mg base _ 4 _ _ := own_mk X G d.sSomeRel (fun _ _ _ _ _ _ us hl => match us, hl with | [_, _], _ => rfl) fun f fd Fu => ok_somerel Fu oP (m _ (by decide))
  have noF : ∀ {k} (i : Nat) c, ([] : List (Str × Ctr))[i]? = some c → OwnC P w K mg base cA c.1 c.2 ∧ c.2.lvl ≤ k := fun i c e => by simp at e
  have noC : ∀ (i : Nat) (c : Str × PyData), ([] : List (Str × PyData))[i]? = some c → ∃ u v, mg c.1 = some u ∧ RelV v u ∧ DC K v c.2 := fun i c e => by simp at e
  have noX : ∀ (i : Nat) (c : Str × Bool), ([] : List (Str × Bool))[i]? = some c → Dr.ExOk P K mg cA c.1 c.2 := fun i c e => by simp at e
  have f1 : ∀ {k} {z1 : Str × Ctr}, OwnC P w K mg base cA z1.1 z1.2 → z1.2.lvl ≤ k → ∀ (i : Nat) c, [z1][i]? = some c → OwnC P w K mg base cA c.1 c.2 ∧ c.2.lvl ≤ k := fun o l i c e => by
    match i, e with
    | 0, e => cases e; exact ⟨o, l⟩
  have x1 : ∀ {z : Str × Bool}, Dr.ExOk P K mg cA z.1 z.2 → ∀ (i : Nat) c, [z][i]? = some c → Dr.ExOk P K mg cA c.1 c.2 := fun o i c e => by
    match i, e with
    | 0, e => cases e; exact o
  have oCh : OwnC P w K mg base cA "check_chain" ⟨5, ["thing"], false, ctChain⟩ := ownC_mk X G n.check_chain (fun _ _ _ _ _ _ us hl => match us, hl with | [_], _ => rfl) fun f fd Fu => def_ir (k := 4) Fu sc_check_chain hc_check_chain (fun t => ⟨hs, bl, f1 (own_F oQ) (Nat.le_refl _), noC, x1 ⟨cR, hA1, by rw [if_pos rfl]; exact ⟨_, _, T⟩⟩⟩) k_chain
  have oCs : OwnC P w K mg base cA "check_sending" ⟨5, ["thing"], false, ctCs⟩ := ownC_mk X G n.check_sending (fun _ _ _ _ _ _ us hl => match us, hl with | [_], _ => rfl) fun f fd Fu => def_ir (k := 4) Fu sc_check_sending hc_check_sending (fun t => ⟨hs, bl, f1 (own_F oSn) (Nat.le_refl _), noC, x1 ⟨cS, hA2, by rw [if_neg Bool.false_ne_true]; exact TS⟩⟩) k_chkSnd
  have oAb : OwnC P w K mg base cA "_are_bounds" ⟨3, ["thing"], false, ctF grAb⟩ := ownC_mk X G n.are_bounds (fun _ _ _ _ _ _ us hl => match us, hl with | [_], _ => rfl) fun f fd Fu => def_ir (k := 2) Fu sc_are_bounds hc_are_bounds (fun t => ⟨hs, bl, f1 (own_F oC) (Nat.le_refl _), noC, noX⟩) k_areB
  have oCb : OwnC P w K mg base cA "check_bounds" ⟨4, ["thing"], false, ctCb⟩ := ownC_mk X G n.check_bounds (fun _ _ _ _ _ _ us hl => match us, hl with | [_], _ => rfl) fun f fd Fu => def_ir (k := 3) Fu sc_check_bounds hc_check_bounds (fun t => ⟨hs, bl, f1 oAb (Nat.le_refl _), noC, x1 ⟨cB, hA3, by rw [if_neg Bool.false_ne_true]; exact TB⟩⟩) k_chkB
  have oPd : OwnC P w K mg base cA "pushed_down" ⟨1, ["values", "bounds"], false, ctPd⟩ := ownC_mk X G n.pushed_down (fun _ _ _ _ _ _ us hl => match us, hl with | [_, _], _ => rfl) fun f fd Fu => def_ir (k := 0) Fu sc_pushed_down hc_pushed_down (fun t => ⟨hs, bl, noF, noC, noX⟩) k_pd
  have oSt : OwnC P w K mg base cA "settled" ⟨2, ["sending", "bounds"], false, ctF grSt⟩ := ownC_mk X G n.settled (fun _ _ _ _ _ _ us hl => match us, hl with | [_, _], _ => rfl) fun f fd Fu => def_ir (k := 1) Fu sc_settled hc_settled (fun t => ⟨hs, bl, f1 oPd (Nat.le_refl _), noC, noX⟩) k_settled
  have oBo : OwnC P w K mg base cA "bounds_of" ⟨6, ["relays"], false, ctBo⟩ := ownC_mk X G n.bounds_of (fun _ _ _ _ _ _ us hl => match us, hl with | [_], _ => rfl) fun f fd Fu => def_ir (k := 5) Fu sc_bounds_of hc_bounds_of (fun t => ⟨hs, bl, f1 oCh (Nat.le_refl _), fun i c e => by
    match i, e with
    | 0, e => cases e; exact conI_c X G cH
    | 1, e => cases e; exact conI_c X G cL, noX⟩) k_bo
  have oSg : OwnC P w K mg base cA "standing" ⟨6, ["sending", "bounds"], false, ctSg⟩ := ownC_mk X G n.standing (fun _ _ _ _ _ _ us hl => match us, hl with | [_, _], _ => rfl) fun f fd Fu => def_ir (k := 5) Fu sc_standing hc_standing (fun t => ⟨hs, bl, fun i c e => by
    match i, e with
    | 0, e => cases e; exact ⟨oCs, Nat.le_refl _⟩
    | 1, e => cases e; exact ⟨oCb, by decide⟩
    | 2, e => cases e; exact ⟨oSt, by decide⟩, noC, noX⟩) k_standing
  have oIs : OwnC P w K mg base cA "is_standing" ⟨6, ["thing", "bounds"], false, ctIs⟩ := ownC_mk X G n.is_standing (fun _ _ _ _ _ _ us hl => match us, hl with | [_, _], _ => rfl) fun f fd Fu => def_ir (k := 5) Fu sc_is_standing hc_is_standing (fun t => ⟨hs, bl, fun i c e => by
    match i, e with
    | 0, e => cases e; exact ⟨own_F oSn, by decide⟩
    | 1, e => cases e; exact ⟨oSt, by decide⟩, noC, noX⟩) k_isStanding
  have oLs : OwnC P w K mg base cA "_law_standing" ⟨1, ["sending", "bounds"], false, ctF grLs⟩ := ownC_mk X G n.law_standing (fun _ _ _ _ _ _ us hl => match us, hl with | [_, _], _ => rfl) fun f fd Fu => def_ir (k := 0) Fu sc_law_standing hc_law_standing (fun t => ⟨hs, bl, noF, noC, noX⟩) k_ls
  have oLb : OwnC P w K mg base cA "_law_bounds" ⟨1, ["relays"], false, ctBo⟩ := ownC_mk X G n.law_bounds (fun _ _ _ _ _ _ us hl => match us, hl with | [_], _ => rfl) fun f fd Fu => def_ir (k := 0) Fu sc_law_bounds hc_law_bounds (fun t => ⟨hs, bl, noF, noC, noX⟩) k_lb
  refine fn_lawI (qual := "law") (G := gL0) (k := 6) Fu sc_law rfl oPot (by decide) hc_law (fun t => ⟨hs, bl, fun i c e => ?_, noC, noX⟩) (fun a p c ms => k_law a p c ms) (by decide +kernel) (by decide +kernel) (by decide +kernel) (by decide +kernel) (by decide +kernel)
  match i, e with
  | 0, e => cases e; exact ⟨own_D oB, by decide⟩
  | 1, e => cases e; exact ⟨oLb, by decide⟩
  | 2, e => cases e; exact ⟨oBo, by decide⟩
  | 3, e => cases e; exact ⟨own_D oS, by decide⟩
  | 4, e => cases e; exact ⟨oSg, by decide⟩
  | 5, e => cases e; exact ⟨own_D oSr, by decide⟩
  | 6, e => cases e; exact ⟨oLs, by decide⟩
  | 7, e => cases e; exact ⟨oIs, by decide⟩
end K20

set_option Elab.async false
set_option maxRecDepth 100000
open PySem PySem.W PyProof.Rows
local macro_rules | `(tactic| walk_at "dfn") => `(tactic| (refine' Cr.dfn_mk ?a ?l ?c ?k; (case a => k_is); (case l => k_is); (case c => k_is); (case k => k_is)))
local macro_rules | `(tactic| walk_at "con") => `(tactic| (refine' K20.conT_mk ?a ?l ?h ?z; (case a => k_is); (case l => k_is); (case h => decide +kernel); (case z => decide +kernel)))
local macro_rules | `(tactic| walk_at "coni") => `(tactic| (refine' K20.conI_mk ?a; (case a => k_is)))
set_option maxHeartbeats 0 in
theorem PySem.Challenge.cw_cutrelays_k20_bounds_and_standings_holds : PySem.Challenge.rw_cutrelays_k20_bounds_and_standings.Holds := by
  w_on; o_law; k_head; (case hw => w_witness2)
  k_fill
  refine Cr.walkS (l := PySem.Challenge.rw_cutrelays_k20_bounds_and_standings) (n := 63) (k := 7) (x := "script") (sp := fun K => Cr.spLaw K) rfl (by decide) rfl ⟨rfl, by decide, by decide⟩ (by decide +kernel) (fun w h Y => PySem.W.kIn_of Y) ?F (fun K H a ns hl _ hS => ⟨a, ns, rfl, hS, hl, fun _ => rfl⟩)
  case F =>
    intro w mg fa h KX G hmg
    refine' K20.ends KX G hmg (K20.blt_mk ?z0 ?z1 ?z2 ?z3 ?z4 ?z5 ?z6 ?z7 ?z8 ?z9 ?z10 ?z11 ?z12 ?z13 ?z14 ?z15 ?z16 ?z17 ?z18 ?z19) ?cH ?cL ?c1 ?c2 ?c3 ?c4 ?c5 ?c6 ?dE ⟨?n0, ?n1, ?n2, ?n3, ?n4, ?n5, ?n6, ?n7, ?n8, ?n9, ?n10, ?n11⟩ ⟨?o0, ?o1, ?o2, ?o3, ?o4, ?o5, ?o6, ?o7, ?o8, ?o9, ?o10, ?o11, ?o12⟩ ?cR ?fI ?cS ?cB ?sI ?xS ?xB
    (case sI => (refine' Cr.supIn_mk ?g ?s ?lC ?hbm ?sa ?ga ?gg ?noN ?iC ?tC ?kC ?exC ?vEC ?selfC ?tyC ?hdC ?te ?sin ?opq ?top ?mz ?lf ?hcd ?lcd ?hvs ?hfile ?lcc ?l1 ?l2; (case g => k_is); (case s => k_is); (case lC => k_is); (case hbm => decide +kernel); (case sa => k_is); (case ga => k_is); (case gg => k_is); (case noN => k_is); (case iC => k_is); (case tC => k_is); (case kC => k_is); (case exC => k_is); (case vEC => k_is); (case selfC => k_is); (case tyC => k_is); (case hdC => k_is); (case te => kts_exm); (case sin => ks_is); (case opq => k_is); (case top => rfl); (case mz => decide); (case lf => k_is); (case hcd => k_is); (case lcd => k_is); (case hvs => rfl); (case hfile => decide +kernel); (case lcc => k_is); (case l1 => rfl); (case l2 => rfl)))
    (case xS => (refine' ⟨?g, ?k, ?x, ?b, ?t⟩; (case g => k_is); (case k => k_is); (case x => k_exc); (case b => k_is); (case t => k_is)))
    (case xB => (refine' ⟨?g, ?k, ?x, ?b, ?t⟩; (case g => k_is); (case k => k_is); (case x => k_exc); (case b => k_is); (case t => k_is)))
    (case cH => walk_at "coni"); (case cL => walk_at "coni")
    (case c1 => walk_at "con"); (case c2 => walk_at "con"); (case c3 => walk_at "con"); (case c4 => walk_at "con"); (case c5 => walk_at "con"); (case c6 => walk_at "con")
    (case dE => (refine' K20.endsD_mk ?g ?l ?kl ?g1 ?g2 ?g3 ?l1 ?l2 ?l3 ?h1 ?h2 ?h3 ?y1 ?y2 ?y3; (case g => k_is); (case l => k_is); (case kl => exact K20.keyB_lit (ks := ["length", "marks", "close"]) ⟨⟨_, rfl⟩, rfl, ⟨_, rfl⟩, rfl, ⟨_, rfl⟩, rfl, trivial⟩); (case g1 => k_is); (case g2 => k_is); (case g3 => k_is); (case l1 => k_is); (case l2 => k_is); (case l3 => k_is); (case h1 => decide +kernel); (case h2 => decide +kernel); (case h3 => decide +kernel); (case y1 => decide +kernel); (case y2 => decide +kernel); (case y3 => decide +kernel)))
    (case n0 => walk_at "dfn"); (case n1 => walk_at "dfn"); (case n2 => walk_at "dfn"); (case n3 => walk_at "dfn"); (case n4 => walk_at "dfn"); (case n5 => walk_at "dfn"); (case n6 => walk_at "dfn"); (case n7 => walk_at "dfn"); (case n8 => walk_at "dfn"); (case n9 => walk_at "dfn"); (case n10 => walk_at "dfn"); (case n11 => walk_at "dfn")
    (case o0 => walk_at "dfn"); (case o1 => walk_at "dfn"); (case o2 => walk_at "dfn"); (case o3 => walk_at "dfn"); (case o4 => walk_at "dfn"); (case o5 => walk_at "dfn"); (case o6 => walk_at "dfn"); (case o7 => walk_at "dfn"); (case o8 => walk_at "dfn"); (case o9 => walk_at "dfn"); (case o10 => walk_at "dfn"); (case o11 => walk_at "dfn"); (case o12 => walk_at "dfn")
    (case z0 => k_is); (case z1 => k_is); (case z2 => k_is); (case z3 => k_is); (case z4 => k_is); (case z5 => k_is); (case z6 => k_is); (case z7 => k_is); (case z8 => k_is); (case z9 => k_is); (case z10 => k_is); (case z11 => k_is); (case z12 => k_is); (case z13 => k_is); (case z14 => k_is); (case z15 => k_is); (case z16 => k_is); (case z17 => k_is); (case z18 => k_is); (case z19 => k_is)

