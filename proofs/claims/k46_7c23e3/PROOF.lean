import PyProof.Rows.All
import Wide.All
import OpenK.AllK
import Wide.FinOn
import HandS.ForMost
import HandS.ForExc
import HandS.IsInst
import HandS.Wide
import HandS.Gcd
import HandS.Flow
import HandS.Style
import PyProof.ReprRoads
import HandS.NoneIn
import PyProof.ReprLen
import HandS.Conv
import HandS.ExcInit
import HandS.ExcIs
import HandS.Walk
import HandS.Iter
import KE.GoesMore
import HandS.Rev
import HandS.Star
import HandS.RevRange
import KE.KMathG
import HandS.Zip
import HandS.TupSets
import HandS.Deep
import PyProof.ListNew
import HandS.Lambda
import HandS.Nested
import KE.KDflt
import HandS.EndTab
import PySem.Challenge.RW_mapflow_k46_polynomials_and_zeros_refuse
set_option Elab.async false
set_option linter.all false
set_option maxRecDepth 100000
set_option maxHeartbeats 4000000
namespace Mf
open PySem PySem.Spec PyProof.Rows L2

/-! ### a def that is run where nothing is being shown (the guards are known to be none) -/
structure FnG (P : Program) (w : World) (K : PySem.W.Frag) (mg : Str → Option Value) (base : Heap) (CX : CXT) (k : Nat) (f : Addr) (fd : FuncData) (ps : List Str) (sp : Sp) : Prop where
  size : ∀ vs H Q E, sp vs H Q E → vs.length = ps.length
  go : ∀ (A : Around), A.guards = some [] → ∀ (outer : List Env) (s : Shared) (H : Hp) (args : Args) (us : List Value) (vs : List V) (Q : VK) (E : XK),
    Room k A → Env0 P w K mg base A outer s H → BindsTo s fd args (ps.zip us) → Vals vs us → sp vs H Q E →
      codeAny (model P w) A (.call (.ref f) args) (CR CX outer P w H s Q E) s

section
variable {P : Program} {w : World} {K : PySem.W.Frag} {mg : Str → Option Value} {base : Heap}

theorem FnG.of {CX : CXT} {k : Nat} {f : Addr} {fd : FuncData} {ps : List Str} {sp : Sp} (F : FnOk P w K mg base CX k f fd ps sp) : FnG P w K mg base CX k f fd ps sp :=
  ⟨F.len, fun A _ outer s H args us vs Q E => F.run A outer s H args us vs Q E⟩

/-- a def of the text, by its body, where the guards are known -/
theorem okG {x qual : Str} {st : Stmt} {f : Addr} {fd : FuncData} {N ps : List Str} {k : Nat} {sp : Sp} (F : Fun K x qual st f fd) (S : FnScope N ps (defScope st))
    (len : ∀ vs H Q E, sp vs H Q E → vs.length = ps.length)
    (hbody : ∀ (cdv : Value) (A : Around) (outer : List Env) (s : Shared) (H : Hp) (vs : List V) (Q : VK) (E : XK),
      (A.deeper (envOfC qual (defScope st) s.heap.objs.size f cdv)).guards = some [] →
      Room k (A.deeper (envOfC qual (defScope st) s.heap.objs.size f cdv)) → sp vs H Q E →
      ∃ t, PSs (cxOf CX0 P w K mg base N qual (defScope st) f cdv A outer s H E).nox (defBody st) t ∧
        t { nx := fun _ H' => Q .non H', rt := Q } (start N vs) H) :
    FnG P w K mg base CX0 (k + 1) f fd ps sp := by
  obtain ⟨oc, od, kV, doc, pm, an, cdv, ct, osl, rfl, lk, hcd⟩ := F.ex
  refine ⟨len, ?_⟩
  intro A hA outer s H args us vs Q E hr e0 hb r hsp
  have KX : K.In s.heap := e0.mod.kin.keeps fun b o e => (e0.bs b o e).1
  have lim : s.heap.NoLimit := e0.mod.nolimit.keeps fun b o e => (e0.bs b o e).1
  have hl := len _ _ _ _ hsp
  have kinds : ∀ y ∈ ps.zip us, (defScope st).names.lookup y.1 = some .local ∨
      ((defScope st).names.lookup y.1 = some .cell ∧ ((cellsFrom (s.heap.objs.size + 1) (defScope st).names []).lookup y.1).isSome = true) := by
    intro y hy
    obtain ⟨n, v⟩ := y
    cases S.par n (List.of_mem_zip hy).1 with
    | inl q => exact Or.inl q
    | inr q => exact Or.inr ⟨q, PySem.W.cellsFrom_some _ _ _ (.inl q)⟩
  refine codeAny_call_function hr.depth (KX _ _ lk) rfl S.co S.gen rfl (PySem.W.codeRec_of KX hcd) (hb _ _ _ _ ?_)
  refine wpAny_newFunctionEnv_cells S.kind kinds ?_
  intro env he s1 x
  subst he
  refine ⟨lim.keeps x.toInCall.keep, codeAny_func ?_⟩
  have hAg : (A.deeper (envOfC qual (defScope st) s.heap.objs.size f cdv)).guards = some [] := hA
  obtain ⟨t, ht, hq⟩ := hbody cdv A outer s H vs Q E hAg (hr.deeper _) hsp
  have I := inv_start (CX := CX0) (mg := mg) (base := base) (N := N) (qual := qual) (f := f) (cd := cdv) (E := E) S hr.hd e0 hl r x
  refine wpAny_mono (ht.nox.run [] s1 (start N vs) H _ I hq) ?_ (fun e s' hs => hs)
  intro fl s' hs
  cases fl with
  | ret u =>
    obtain ⟨v, σ', H', J, rv, q⟩ := hs
    exact ⟨v, H', J.os, J.bare, J.base, J.hok, rv, q⟩
  | next =>
    obtain ⟨σ', H', J, q⟩ := hs
    exact ⟨V.non, H', J.os, J.bare, J.base, J.hok, (rfl : Value.none = Value.none), q⟩
  | brk => obtain ⟨_, _, _, q⟩ := hs; exact False.elim q
  | cont => obtain ⟨_, _, _, q⟩ := hs; exact False.elim q
end

section
variable {X : Cx} {CX : CXT} {k : Nat} {f C : Addr} {fd : FuncData} {ps : List Str} {sp : Sp} {E : XK} {x : Str} {p pos : Pos} {e : Expr} {es : List Expr} {t : TA}
theorem run_fnG {pins : List (Addr × Obj)} {σ : L2.St} {H : Hp} {s : Shared} {Q : VK} {us : List Value} {vs : List V} (F : FnG X.prog X.w X.K X.mg X.base CX k f fd ps sp)
    (hA : X.A.guards = some []) (hr : Room k X.A) (hb : Binds X.K fd ps []) (hx : Passes CX X E)
    (I : Inv X pins σ H s) (r : Vals vs us) (h : sp vs H Q E) : wpAny (model X.prog X.w) X.A (call (.ref f) us) (EP X pins σ Q) X.xe s := by
  have hl : (us ++ []).length = ps.length := by
    rw [List.append_nil, ← r.length]
    exact F.size _ _ _ _ h
  have hb' := hb s us I.kIn hl
  rw [List.append_nil] at hb'
  refine wpAny_call (codeAny_mono (F.go X.A hA X.stack s H ⟨us, []⟩ us vs Q E hr I.env0 hb' r h) ?_)
  intro r s' hq
  cases r with
  | error e => exact hx pins σ H s e s' I hq
  | ok fl => cases fl with
    | ret u => exact I.after hq
    | next => exact hq.elim
    | brk => exact hq.elim
    | cont => exact hq.elim
/-- f(e, ..) where the guards are known -/
theorem pe_callG (F : FnG X.prog X.w X.K X.mg X.base CX k f fd ps sp) (hA : X.A.guards = some []) (hr : Room k X.A) (hg : Gl X x) (hm : X.mg x = some (.ref f))
    (hk : PySem.W.keepIn X.K (.ref f) = true) (hb : Binds X.K fd ps []) (hx : Passes CX X E)
    (ha : PA X (e :: es) t) (hdb : (x == ("__debug__" : Str)) = false := by decide) (he : starEach (e :: es) X.env = (false, eval e X.env) :: starEach es X.env := by rfl)
    (hpl : (backTo pos (starEach es X.env)).any (·.1) = false := by rfl) :
    PE X (.Call (.Name x p) (e :: es) [] pos) (fun σ H Q => t σ H fun vs H1 => sp vs H1 Q E) := by
  refine ⟨fun pins s σ H Q I h => wpAny_Call_Name_kw (ld_glob I hg hm ?_ hdb)⟩
  refine PySem.W.callWith_K (h₀ := X.base) I.ok.mod.kin hk (thn (ha.run pos pins s σ H _ I h) ?_) he hpl
  intro us s1 ⟨vs, H1, I1, r, q⟩
  exact ⟨I1.kIn, run_fnG F hA hr hb hx I1 r q⟩
end

/-! ### the law's call, where its def is an FnG -/
theorem law_callG {P : Program} {w : World} {K : PySem.W.Frag} {mg mb : Str → Option Value} {k : Nat} {fa a : Addr} {fd : FuncData} {x : Str} {sp : Sp} {s₁ : Shared} {vs : List Value} {ns : List Int}
    (KX : K.In s₁.heap) (hns : s₁.heap.Ns mainGlobals mg) (hb : s₁.heap.Ns builtinsNs mb) (hbb : ∀ x : Str, x ≠ "__name__" → mb x = bootBuiltins x)
    (hlim : s₁.heap.NoLimit) (hg : s₁.gens = #[])
    (ha : s₁.heap.get? a = some { cls := .type "list", data := .seq vs.toArray }) (hi : IntsAre vs ns) (hl : ns.length ≤ sizeLine) (hr : Room k callerA)
    (F : ∀ base : Heap, K.In base → base.Ns mainGlobals mg → FnG P w K mg base CX0 k fa fd [x] sp)
    (hbind : ∀ (s : Shared) (u : Value), BindsTo s fd ⟨[u], []⟩ [(x, u)])
    (hsp : ∀ H : Hp, Only H → SqL K H a (ns.map V.int) → sp [.ref a] H (fun v _ => v = .bl true) fun _ _ _ => False) :
    codeAny (model P w) callerA (.call (.ref fa) ⟨[.ref a], []⟩)
      (fun r s' => r = .ok (.ret (.bool true)) ∧ OldK s₁.heap s'.heap ∧ s'.os = s₁.os ∧ AllBare s'.gens) s₁ := by
  have rv := vals_ints hi
  have lenV := hi.length
  have main : ∀ H : Hp, Only H → SqL K H a (ns.map V.int) → HOk P w H s₁.heap → (∀ b, H b ≠ none → b = a) → (H a ≠ none → K.lookup a = none) →
      codeAny (model P w) callerA (.call (.ref fa) ⟨[.ref a], []⟩)
        (fun r s' => r = .ok (.ret (.bool true)) ∧ OldK s₁.heap s'.heap ∧ s'.os = s₁.os ∧ AllBare s'.gens) s₁ := by
    intro H hO hS hok hA hK
    have unt : ∀ {b : Addr} {o : Obj}, s₁.heap.get? b = some o → (b = a → False) → H b = none := by
      intro b o e ne
      cases q : H b with
      | none => rfl
      | some u => exact (ne (hA b (by rw [q]; exact Option.some_ne_none _))).elim
    have nsK : ∀ {b : Addr} {m : Str → Option Value}, s₁.heap.Ns b m → (hidT s₁.heap H).Ns b m := by
      intro b m h
      obtain ⟨o, es, ep, e, d, r⟩ := h
      refine ⟨o, es, ep, hidT_get e (unt e fun z => ?_), d, r⟩
      subst z
      rw [ha] at e
      cases e
      cases d
    have hKb : K.In (hidT s₁.heap H) := by
      intro b o e
      refine hidT_get (KX b o e) ?_
      cases q : H b with
      | none => rfl
      | some u =>
        have nb : H b ≠ none := by
          rw [q]
          exact Option.some_ne_none _
        have z := hA b nb
        subst z
        rw [hK nb] at e
        cases e
    have hM : Mod K mg (hidT s₁.heap H) := by
      refine ⟨hKb, nsK hns, ⟨mb, nsK hb, hbb⟩, ?_⟩
      obtain ⟨mc, h1, h2⟩ := hlim
      exact ⟨mc, nsK h1, h2⟩
    have e0 : Env0 P w K mg (hidT s₁.heap H) callerA [] s₁ H :=
      { frames := rfl, mod := hM, bs := fun b o e => of_hidT e, bsz := Nat.le_of_eq (hidT_size _ _), funs := trivial,
        frf := fun b hb => absurd hb List.not_mem_nil, hok := hok, bare := .of_eq hg }
    have run := (F _ hKb (nsK hns)).go callerA rfl [] s₁ H ⟨[.ref a], []⟩ [.ref a] [.ref a] (fun v _ => v = .bl true) (fun _ _ _ => False) hr e0 (hbind s₁ (.ref a)) (.cons rfl .nil) (hsp H hO hS)
    refine codeAny_mono run ?_
    intro r s' h
    cases r with
    | error e => exact False.elim h
    | ok fl => cases fl with
      | next => exact False.elim h
      | brk => exact False.elim h
      | cont => exact False.elim h
      | ret u =>
        obtain ⟨v, H', os, bare, un, hok', r', q⟩ := h
        obtain rfl : v = .bl true := q
        obtain rfl : u = Value.bool true := r'
        refine ⟨rfl, OldK.of_keep ?_, os, bare⟩
        intro b o e
        cases q : H b with
        | none => exact un.keep b o e q List.not_mem_nil List.not_mem_nil
        | some u =>
          cases hO b with
          | inl z =>
            rw [q] at z
            cases z
          | inr z =>
            obtain ⟨ob, xs, z⟩ := z
            obtain ⟨e1, _⟩ := hok b _ z
            obtain ⟨e2, _⟩ := hok' b _ (un.frzs b ob _ z)
            rw [e] at e1
            cases e1
            exact e2
  cases hk : K.lookup a with
  | some o =>
    have e := KX a o hk
    rw [ha] at e
    cases e
    refine main (fun _ => none) (fun _ => Or.inl rfl) (Or.inr ⟨_, vs.toArray, _, hk, rfl, rfl, rfl, ?_, ?_⟩) ?_ (fun b z => absurd rfl z) (fun z => absurd rfl z)
    · rw [List.size_toArray, lenV]
      exact hl
    · simpa using rv
    · intro b u z
      have z' : (none : Option HO) = some u := z
      cases z'
  | none =>
    have hat : ∀ b : Addr, (fun b => if b = a then some (HO.frz { cls := .type "list", data := .seq vs.toArray } (.lst (ns.map V.int))) else none) b ≠ none → b = a := by
      intro b z
      by_cases hb : b = a
      · exact hb
      · exact absurd (if_neg hb) z
    refine main (fun b => if b = a then some (HO.frz { cls := .type "list", data := .seq vs.toArray } (.lst (ns.map V.int))) else none) ?_ (Or.inl (Or.inr ⟨_, if_pos rfl⟩)) ?_ hat (fun _ => hk)
    · intro b
      by_cases hb : b = a
      · exact Or.inr ⟨_, _, if_pos hb⟩
      · exact Or.inl (if_neg hb)
    · intro b u z
      by_cases hb : b = a
      · have z' := (if_pos hb).symm.trans z
        cases z'
        subst hb
        refine ⟨ha, ?_, vs, _, rv, ha⟩
        rw [List.length_map]
        exact hl
      · have z' := (if_neg hb).symm.trans z
        cases z'

/-- the law row from the promise of its def -/
theorem walkG {l : PySem.W.OpenLaw} {n k : Nat} {q : Program} {loose : List Str} {XP : (Str → Option Value) → Heap → Prop} {YP : World → Heap → Prop} {d : DefRec} {K : Params → PySem.W.Frag} {sp : PySem.W.Frag → Sp} {x : Str}
    (hn : l.most = some n) (hn2 : n ≤ sizeLine) (hdf : d.params.defaults = []) (hr : Room k callerA)
    (hY : ∀ (w : World) (h : Heap), YP w h → (K w.params).In h)
    (F : ∀ (w : World) (mg : Str → Option Value) (fa : Addr) (h : Heap), (K w.params).In h → h.Ns mainGlobals mg → mg d.name = some (.ref fa) →
      ∃ fd : FuncData, (∀ (s : Shared) (u : Value), BindsTo s fd ⟨[u], []⟩ [(x, u)]) ∧
        ∀ base : Heap, (K w.params).In base → base.Ns mainGlobals mg → FnG l.prog w (K w.params) mg base CX0 k fa fd [x] (sp (K w.params)))
    (hsp : ∀ (K : PySem.W.Frag) (H : Hp) (a : Addr) (ns : List Int), ns.length ≤ n → Only H → SqL K H a (ns.map V.int) → sp K [.ref a] H (fun v _ => v = .bl true) fun _ _ _ => False) :
    PySem.W.WalkO q loose XP YP l.row.toRowW d [] (fun f vs => PySem.call f vs) := by
  refine Att.attach_call hn hdf ?_
  intro w s₀ s₁ mg mb fa o pm cd doc a vs ns G Y ho hd hcd hmg hobj hints hlen hg
  have KX := hY w _ Y
  obtain ⟨fd, hb, hF⟩ := F w mg fa _ KX G.T.g hmg
  exact law_callG KX G.T.g G.T.b G.T.builtins G.T.nolimit hg hobj hints (Nat.le_trans hlen hn2) hr hF hb (fun H hO hS => hsp _ H a ns hlen hO hS)

/-! ### repr of data -/
section
variable {X : Cx}
theorem call_reprD (hA : X.A.guards = some []) (hu : X.A.units + 64 < cLine) : CallR X (.builtin "repr") (fun xs H Q => ∃ (a : Addr) (d : PyData), xs = [.ref a] ∧ Dp X.K H (.ref a) d ∧
    d.showable = true ∧ d.hasDict = false ∧ d.depth ≤ 60 ∧ d.shown.length ≤ sizeLine ∧ Q (.str d.shown) H) := by
  intro pins s σ H xs us Q I r h
  obtain ⟨a, d, rfl, hd, hs, hn, hdep, hz, q⟩ := h
  obtain ⟨u, rfl, rx⟩ := vals1 r
  cases (show u = Value.ref a from rx)
  obtain ⟨as, rd⟩ := Dp.reads I d _ _ hd rfl
  refine repr_of_reads' rd hs (PyData.noDict_hsm hn) hA (by omega) (fun b o e => e) ?_ hz
  intro h' u tk hk
  exact ⟨.str d.shown, H, I.kept hk, ⟨u, rfl⟩, q⟩
end
end Mf
namespace Mf
open PySem PySem.Spec PyProof.Rows L2
/-- where one stands: the program, the world, what is written, the module's names -/
structure Cn where
  P : Program
  w : World
  K : PySem.W.Frag
  mg : Str → Option Value
  base : Heap
abbrev cnOf (X : Cx) : Cn := ⟨X.prog, X.w, X.K, X.mg, X.base⟩
/-- a def that can be called by its name -/
structure Cl (c : Cn) (k : Nat) (x : Str) (st : Stmt) (ps : List Str) (sp : Sp) : Prop where
  ex : ∃ (f : Addr) (fd : FuncData), FnG c.P c.w c.K c.mg c.base CX0 k f fd ps sp ∧ c.mg x = some (.ref f) ∧ Fun c.K x x st f fd
/-- a def of the text as it stands -/
structure De (c : Cn) (x : Str) (st : Stmt) : Prop where
  ex : ∃ (f : Addr) (fd : FuncData), c.mg x = some (.ref f) ∧ Fun c.K x x st f fd
/-- the arguments written one behind another -/
def Pl (x : Str) (st : Stmt) (ps : List Str) : Prop := ∀ (kV doc pm : Value) (an : Option Addr) (cdv ct : Value) (us : List Value), us.length = ps.length →
  bindArgs (PySem.W.fnOf x x (defArgs st) (defBody st) (defScope st) .none kV doc pm an cdv ct) ⟨us, []⟩ = pure (ps.zip us)
/-- .. by names alone: the names as they are written, and how they are put in order -/
def Pk (x : Str) (st : Stmt) (ps ks : List Str) (g : List Value → List Value) : Prop := ∀ (kV doc pm : Value) (an : Option Addr) (cdv ct : Value) (ws : List Value), ws.length = ks.length →
  bindArgs (PySem.W.fnOf x x (defArgs st) (defBody st) (defScope st) .none kV doc pm an cdv ct) ⟨[], ks.zip ws⟩ = pure (ps.zip (g ws))

theorem De.cl {c : Cn} {x : Str} {st : Stmt} {N ps : List Str} {k : Nat} {sp : Sp} (D : De c x st) (S : FnScope N ps (defScope st))
    (len : ∀ vs H Q E, sp vs H Q E → vs.length = ps.length)
    (hbody : ∀ (f : Addr) (cdv : Value) (A : Around) (outer : List Env) (s : Shared) (H : Hp) (vs : List V) (Q : VK) (E : XK),
      (A.deeper (envOfC x (defScope st) s.heap.objs.size f cdv)).guards = some [] →
      Room k (A.deeper (envOfC x (defScope st) s.heap.objs.size f cdv)) → sp vs H Q E →
      ∃ t, PSs (cxOf CX0 c.P c.w c.K c.mg c.base N x (defScope st) f cdv A outer s H E).nox (defBody st) t ∧
        t { nx := fun _ H' => Q .non H', rt := Q } (start N vs) H) : Cl c (k + 1) x st ps sp := by
  obtain ⟨f, fd, hm, F⟩ := D.ex
  exact ⟨f, fd, okG F S len (hbody f), hm, F⟩

section
variable {X : Cx} {k j : Nat} {f : Addr} {ps ks : List Str} {sp : Sp} {x : Str} {p pos : Pos} {e : Expr} {es : List Expr} {t tk : TA} {st : Stmt} {kws : List Keyword}
def tCl (sp : Sp) (t : TA) : TE := fun σ H Q => t σ H fun vs H1 => sp vs H1 Q E0
def tClK (sp : Sp) (g : List V → List V) (t : TA) : TE := fun σ H Q => t σ H fun vs H1 => sp (g vs) H1 Q E0
/-- f(e, ..) -/
theorem pe_f (c : Cl (cnOf X) k x st ps sp) (hA : X.A.guards = some []) (hr : Room j X.A) (hk : k ≤ j) (hp : Pl x st ps) (hg : Gl X x) (ha : PA X (e :: es) t)
    (hdb : (x == ("__debug__" : Str)) = false := by decide) (he : starEach (e :: es) X.env = (false, eval e X.env) :: starEach es X.env := by rfl)
    (hpl : (backTo pos (starEach es X.env)).any (·.1) = false := by rfl) : PE X (.Call (.Name x p) (e :: es) [] pos) (tCl sp t) := by
  obtain ⟨f, fd, F, hm, W⟩ := c.ex
  exact pe_callG F hA (hr.mono hk) hg hm W.kp (W.binds hp) pass0 ha hdb he hpl
/-- f(k = e, ..) -/
theorem pe_fk {g : List Value → List Value} {gV : List V → List V} (c : Cl (cnOf X) k x st ps sp) (hA : X.A.guards = some []) (hr : Room j X.A) (hk : k ≤ j) (hp : Pk x st ps ks g)
    (rel : ∀ {vs : List V} {us : List Value}, Vals vs us → us.length = ks.length → Vals (gV vs) (g us)) (hl : ∀ vs : List V, (gV vs).length = ps.length → vs.length = ks.length) (hg : Gl X x) (hkw : PK X kws tk)
    (hall : (backToKw pos (keywordEach kws X.env)).all (·.1.isSome) = true := by rfl) (hks : (backToKw pos (keywordEach kws X.env)).filterMap (·.1) = ks := by rfl)
    (hdb : (x == ("__debug__" : Str)) = false := by decide)
    (hpl : ((backTo pos (starEach [] X.env)).any (·.1) || (backToKw pos (keywordEach kws X.env)).any (·.1.isNone)) = false := by rfl) :
    PE X (.Call (.Name x p) [] kws pos) (tClK sp gV tk) := by
  obtain ⟨f, fd, F, hm, W⟩ := c.ex
  refine ⟨fun pins s σ H Q I h => ?_⟩
  refine wpAny_Call_Name_kw (ld_glob I hg hm ?_ hdb)
  refine PySem.W.callWith_KW0 (h₀ := X.base) I.ok.mod.kin W.kp hall (thn (hkw.run pos pins s σ H _ I h) ?_) hpl
  intro ws s2 ⟨zs, H2, I2, rz, q2⟩
  refine ⟨I2.kIn, ?_⟩
  rw [hks]
  have l0 := F.size _ _ _ _ q2
  have l1 : ws.length = ks.length := by
    rw [← rz.length]
    exact hl _ l0
  have r2 := rel rz l1
  have hb : BindsTo s2 fd ⟨[], ks.zip ws⟩ (ps.zip (g ws)) := by
    obtain ⟨oc, od, kV, doc, pm, an, cdv, ct, osl, rfl, lk, hcd⟩ := W.ex
    exact .of_eq (hp kV doc pm an cdv ct ws l1)
  refine wpAny_call (codeAny_mono (F.go X.A hA X.stack s2 H2 ⟨[], ks.zip ws⟩ (g ws) (gV zs) Q E0 (hr.mono hk) I2.env0 hb r2 q2) ?_)
  intro r s' hq
  cases r with
  | error e => exact pass0 pins σ H2 s2 e s' I2 hq
  | ok fl => cases fl with
    | ret u => exact I2.after hq
    | next => exact hq.elim
    | brk => exact hq.elim
    | cont => exact hq.elim
end

/-! ### operators for whatever comes -/
section
variable {X : Cx}
theorem OpR_or {f : Value → Value → Sem Value} {r r' : R2} (h : OpR X f r) (h' : OpR X f r') : OpR X f (fun x y H Q => r x y H Q ∨ r' x y H Q) := by
  intro pins s σ H x y v u Q I rx ry q
  cases q with
  | inl q => exact h pins s σ H x y v u Q I rx ry q
  | inr q => exact h' pins s σ H x y v u Q I rx ry q
def CMulU (i j : Int) : Prop := CMul i j ∨ CMulW i j
theorem op_mulI : OpR X (binaryOp .Mult) (rI CMulU fun i j => .int (i * j)) := by
  intro pins s σ H x y v u Q I rx ry q
  obtain ⟨i, j, e1, e2, c, q⟩ := q
  cases c with
  | inl c => exact op_mul pins s σ H x y v u Q I rx ry ⟨i, j, e1, e2, c, q⟩
  | inr c => exact op_mulW pins s σ H x y v u Q I rx ry ⟨i, j, e1, e2, c, q⟩
def rAddU : R2 := fun x y H Q => rI0 (fun i j => .int (i + j)) x y H Q ∨ rCat x y H Q
theorem op_addU : OpR X (binaryOp .Add) rAddU := OpR_or op_add op_cat
def rMulU : R2 := fun x y H Q => rI CMulU (fun i j => .int (i * j)) x y H Q ∨ rRep x y H Q
theorem op_mulU : OpR X (binaryOp .Mult) rMulU := OpR_or op_mulI op_rep
def rEqU (K : PySem.W.Frag) : R2 := fun x y H Q => rEq x y H Q ∨ rEqD K x y H Q
def rNeU (K : PySem.W.Frag) : R2 := fun x y H Q => rNe x y H Q ∨ rNeD K x y H Q
theorem op_eqU (hu : X.A.units + 64 < cLine) : OpR X (compareOp .Eq) (rEqU X.K) := OpR_or op_eq (op_eqD hu)
theorem op_neU (hu : X.A.units + 64 < cLine) : OpR X (compareOp .NotEq) (rNeU X.K) := OpR_or op_ne (op_neD hu)
/-- is of a bool that is written -/
def rIsT (b : Bool) : R2 := fun x y H Q => y = .bl b ∧ ((∃ a, x = .bl a ∧ Q (.bl (decide (a = b))) H) ∨ (∃ i, x = .int i ∧ Q (.bl false) H))
def rNotT (b : Bool) : R2 := fun x y H Q => y = .bl b ∧ ((∃ a, x = .bl a ∧ Q (.bl (!decide (a = b))) H) ∨ (∃ i, x = .int i ∧ Q (.bl true) H))
theorem op_notT {b : Bool} : OpR X (compareOp .IsNot) (rNotT b) := by
  intro pins s σ H x y v u Q I rx ry h
  obtain ⟨rfl, h⟩ := h
  rcases h with ⟨a, rfl, q⟩ | ⟨i, rfl, q⟩
  · exact op_notBl pins s σ H _ _ v u Q I rx ry ⟨a, b, rfl, rfl, q⟩
  · obtain ⟨t, rfl⟩ := rx
    cases (show u = Value.bool b from ry)
    exact wpAny_isNot_other rfl (fun z => Value.noConfusion z) ⟨.bl true, H, I, rfl, q⟩
/-- is None, is not None -/
def rIsN : R2 := fun x y H Q => y = .non ∧ Q (.bl (decide (x = .non))) H
def rNotN : R2 := fun x y H Q => y = .non ∧ Q (.bl (!decide (x = .non))) H
theorem op_isNU : OpR X (compareOp .Is) rIsN := op_isN
theorem op_notNU : OpR X (compareOp .IsNot) rNotN := op_notN

/-- what a for walks: one rule or another -/
theorem pi_or {tg it : Expr} {w1 w2 : TI} (h1 : PI X tg it w1) (h2 : PI X tg it w2) : PI X tg it (fun σ H R => w1 σ H R ∨ w2 σ H R) := by
  refine ⟨fun pins s σ H R I h => ?_⟩
  cases h with
  | inl h => exact h1.run pins s σ H R I h
  | inr h => exact h2.run pins s σ H R I h
end

/-! ### isinstance(e, (list, tuple)): the tuple of classes is not tracked -/
def tSeqP (K : PySem.W.Frag) (te : TE) : TE := fun σ H Q => te σ H fun x H1 => ∃ t b, TyX K H1 x (.type t) ∧ PySem.W.kitAny K (.type t) [.type "list", .type "tuple"] = some b ∧ Q (.bl b) H1
section
variable {X : Cx} {e : Expr} {te : TE} {p p1 p2 pt pos : Pos} {kt : Nat}
theorem pe_isSeq (hg : Gl X "isinstance") (hm : X.mg "isinstance" = none) (hg1 : Gl X "list") (hm1 : X.mg "list" = none) (hg2 : Gl X "tuple") (hm2 : X.mg "tuple" = none) (he : PE X e te)
    (hs : starEach [e, .Tuple [.Name "list" p1, .Name "tuple" p2] kt pt] X.env = [(false, eval e X.env), (false, eval (.Tuple [.Name "list" p1, .Name "tuple" p2] kt pt) X.env)] := by rfl)
    (hi : starEach [.Name "list" p1, .Name "tuple" p2] X.env = [(false, eval (.Name "list" p1) X.env), (false, eval (.Name "tuple" p2) X.env)] := by rfl) :
    PE X (.Call (.Name "isinstance" p) [e, .Tuple [.Name "list" p1, .Name "tuple" p2] kt pt] [] pos) (tSeqP X.K te) := by
  refine ⟨fun pins s σ H Q I h => ?_⟩
  have hv : bootBuiltins "isinstance" = some (.builtin "isinstance") := by decide +kernel
  refine wpAny_Call_Name_kw (ld_blt I hg hm hv ?_ (by decide) (by decide))
  refine PyProof.Rows.callWith_builtin1 ?_ (by rw [hs]; rfl) (by rfl)
  rw [hs]
  show wpAny _ _ (spliced ((false, eval e X.env) :: backTo pos [(false, eval (.Tuple [.Name "list" p1, .Name "tuple" p2] kt pt) X.env)])) _ _ s
  refine Calls.spliced_cons (thn (he.run pins s σ H _ I h) ?_)
  intro u s1 ⟨x, H1, I1, r1, t, b, ty, kt', q⟩
  refine Calls.spliced_cons (wpAny_mono (Q := fun v s2 => v = .ref s1.heap.objs.size ∧ s2 = { s1 with heap := s1.heap.push { cls := .type "tuple", data := .seq [Value.type "list", Value.type "tuple"].toArray } }) ?_ ?_ (fun _ _ z => z))
  · refine wpAny_Tuple_spliced (x1 := kt) ?_
    rw [hi]
    show wpAny _ _ (spliced ((false, eval (.Name "list" p1) X.env) :: backTo pt [(false, eval (.Name "tuple" p2) X.env)])) _ _ s1
    refine Calls.spliced_cons (ld_blt I1 hg1 hm1 PyProof.Rows.boot_list ?_ (by decide) (by decide))
    refine Calls.spliced_cons (ld_blt I1 hg2 hm2 PyProof.Rows.boot_tuple ?_ (by decide) (by decide))
    refine Calls.spliced_nil ?_
    exact ⟨by show 2 ≤ sizeLine; decide, rfl, rfl⟩
  · intro v s2 hv
    obtain ⟨rfl, rfl⟩ := hv
    refine Calls.spliced_nil ?_
    have I2 := I1.kept (h' := s1.heap.push { cls := .type "tuple", data := .seq [Value.type "list", Value.type "tuple"].toArray }) (t' := s1.toks) (fun b u e => Heap.get?_push_of_some _ e)
    obtain ⟨Pz, Z, pz, hx⟩ := kit_of I2 r1 ty
    exact PySem.W.kia_tup Z I2.kIn pz (Heap.get?_push_size _ rfl) kt' hx fun tk => ⟨.bl b, H1, I2.tok tk, rfl, q⟩
end
end Mf
namespace Mf
open PySem PySem.Spec PyProof.Rows L2

/-! ### readings, step by step -/
section
variable {K : PySem.W.Frag} {σ : L2.St} {H : Hp} {Q : VK} {v x y : V} {ta tb te : TE} {t u tt : TT} {tr : TA} {r : R2} {D : Ends} {t1 t2 : TS}
theorem g_var {i : Nat} (h : σ[i]? = some (some v)) (q : Q v H) : tVar i σ H Q := ⟨v, h, q⟩
theorem g_c (q : Q v H) : tC v σ H Q := q
theorem g_op (q : ta σ H fun x H1 => tb σ H1 fun y H2 => r x y H2 Q) : tOp r ta tb σ H Q := q
theorem g_un {r : V → Hp → VK → Prop} (q : ta σ H fun x H1 => r x H1 Q) : tUn r ta σ H Q := q
theorem g_cb {r : List V → Hp → VK → Prop} (q : tr σ H fun vs H1 => r vs H1 Q) : tCB r tr σ H Q := q
theorem g_cl {sp : Sp} (q : tr σ H fun vs H1 => sp vs H1 Q E0) : tCl sp tr σ H Q := q
theorem g_clk {sp : Sp} {g : List V → List V} (q : tr σ H fun vs H1 => sp (g vs) H1 Q E0) : tClK sp g tr σ H Q := q
theorem g_nil {R : List V → Hp → Prop} (q : R [] H) : tNil σ H R := q
theorem g_cons {R : List V → Hp → Prop} (q : ta σ H fun x H1 => tr σ H1 fun xs H2 => R (x :: xs) H2) : tCons ta tr σ H R := q
theorem g_tB {R : Bool → Hp → Prop} (q : te σ H fun x H1 => ∃ c, x = .bl c ∧ R c H1) : tB te σ H R := q
theorem g_test {R : Bool → Hp → Prop} (q : te σ H fun x H1 => ∃ c, x = .bl c ∧ R c H1) : tTest te σ H R := q
theorem g_bl {b : Bool} {R : Bool → Prop} (q : R b) : ∃ c, V.bl b = .bl c ∧ R c := ⟨b, rfl, q⟩
theorem g_and {R : Bool → Hp → Prop} (q : t σ H fun c H1 => if c = true then u σ H1 R else R false H1) : tAnd t u σ H R := q
theorem g_or {R : Bool → Hp → Prop} (q : t σ H fun c H1 => if c = true then R true H1 else u σ H1 R) : tOr t u σ H R := q
theorem g_not {R : Bool → Hp → Prop} (q : t σ H fun c H1 => R (!c) H1) : tNot t σ H R := q
theorem g_andV (q : ta σ H fun x H1 => ∃ c, x = .bl c ∧ if c = true then tb σ H1 Q else Q (.bl false) H1) : tAndV ta tb σ H Q := q
theorem g_orV (q : ta σ H fun x H1 => ∃ c, x = .bl c ∧ if c = true then Q (.bl true) H1 else tb σ H1 Q) : tOrV ta tb σ H Q := q
theorem g_notV (q : ta σ H fun x H1 => ∃ c, x = .bl c ∧ Q (.bl (!c)) H1) : tNotV ta σ H Q := q
theorem g_if (q : t σ H fun c H1 => if c = true then ta σ H1 Q else tb σ H1 Q) : tIf t ta tb σ H Q := q
theorem g_ifS (q : t σ H fun b H1 => if b = true then t1 D σ H1 else t2 D σ H1) : tIfS t t1 t2 D σ H := q
theorem g_seq (q : t1 ⟨t2 D, D.rt, D.bk, D.ct⟩ σ H) : tSeq t1 t2 D σ H := q
theorem g_next (q : D.nx σ H) : tNext D σ H := q
theorem g_ret (q : te σ H D.rt) : tRet te D σ H := q
theorem g_drop (q : te σ H fun _ H1 => D.nx σ H1) : tDrop te D σ H := q
theorem g_asg {g : TG} (q : te σ H fun x H1 => g x σ H1 D.nx) : tAsg te g D σ H := q
theorem g_name {i : Nat} {R : L2.St → Hp → Prop} (q : R (σ.set i (some v)) H) : gName i v σ H R := q
theorem g_I0 {g : Int → Int → V} {i j : Int} (q : Q (g i j) H) : rI0 g (.int i) (.int j) H Q := ⟨i, j, rfl, rfl, q⟩
theorem g_I {C : Int → Int → Prop} {g : Int → Int → V} {i j : Int} (c : C i j) (q : Q (g i j) H) : rI C g (.int i) (.int j) H Q := ⟨i, j, rfl, rfl, c, q⟩
theorem g_addI {i j : Int} (q : Q (.int (i + j)) H) : rAddU (.int i) (.int j) H Q := .inl ⟨i, j, rfl, rfl, q⟩
theorem g_mulI {i j : Int} (c : CMulU i j) (q : Q (.int (i * j)) H) : rMulU (.int i) (.int j) H Q := .inl ⟨i, j, rfl, rfl, c, q⟩
theorem g_U {g : Int → V} {i : Int} (q : Q (g i) H) : rU g (.int i) H Q := ⟨i, rfl, q⟩
theorem g_isN (q : Q (.bl (decide (x = .non))) H) : rIsN x .non H Q := ⟨rfl, q⟩
theorem g_notN (q : Q (.bl (!decide (x = .non))) H) : rNotN x .non H Q := ⟨rfl, q⟩
theorem g_notTb {a b : Bool} (q : Q (.bl (!decide (a = b))) H) : rNotT b (.bl a) (.bl b) H Q := ⟨rfl, .inl ⟨a, rfl, q⟩⟩
theorem g_notT1 (q : Q (.bl false) H) : rNotT true (.bl true) (.bl true) H Q := ⟨rfl, .inl ⟨true, rfl, q⟩⟩
theorem g_notT2 (q : Q (.bl true) H) : rNotT true (.bl false) (.bl true) H Q := ⟨rfl, .inl ⟨false, rfl, q⟩⟩
theorem g_notT3 (q : Q (.bl true) H) : rNotT false (.bl true) (.bl false) H Q := ⟨rfl, .inl ⟨true, rfl, q⟩⟩
theorem g_notT4 (q : Q (.bl false) H) : rNotT false (.bl false) (.bl false) H Q := ⟨rfl, .inl ⟨false, rfl, q⟩⟩
theorem g_notTi {i : Int} {b : Bool} (q : Q (.bl true) H) : rNotT b (.int i) (.bl b) H Q := ⟨rfl, .inr ⟨i, rfl, q⟩⟩
theorem g_eqI {i j : Int} (q : Q (.bl (decide (i = j))) H) : rEqU K (.int i) (.int j) H Q := .inl ⟨rfl, by
  have e : decide (V.int i = V.int j) = decide (i = j) := by
    by_cases h : i = j
    · subst h; simp
    · simp [h]
  rw [e]; exact q⟩
theorem g_neI {i j : Int} (q : Q (.bl (!decide (i = j))) H) : rNeU K (.int i) (.int j) H Q := .inl ⟨rfl, by
  have e : decide (V.int i = V.int j) = decide (i = j) := by
    by_cases h : i = j
    · subst h; simp
    · simp [h]
  rw [e]; exact q⟩
theorem g_neS {a b : Str} (q : Q (.bl (!decide (a = b))) H) : rNeU K (.str a) (.str b) H Q := .inl ⟨rfl, by
  have e : decide (V.str a = V.str b) = decide (a = b) := by
    by_cases h : a = b
    · subst h; simp
    · simp [h]
  rw [e]; exact q⟩
theorem g_eqS {a b : Str} (q : Q (.bl (decide (a = b))) H) : rEqU K (.str a) (.str b) H Q := .inl ⟨rfl, by
  have e : decide (V.str a = V.str b) = decide (a = b) := by
    by_cases h : a = b
    · subst h; simp
    · simp [h]
  rw [e]; exact q⟩
theorem g_iteT {A B : Prop} (h : A) : if true = true then A else B := iteT h
theorem g_iteF {A B : Prop} (h : B) : if false = true then A else B := iteF h
theorem g_iteNT {A B : Prop} (h : B) : if (!true) = true then A else B := iteF h
theorem g_iteNF {A B : Prop} (h : A) : if (!false) = true then A else B := iteT h
theorem g_ite {b : Bool} {A B : Prop} (h1 : b = true → A) (h2 : b = false → B) : if b = true then A else B := by
  cases b with
  | true => exact iteT (h1 rfl)
  | false => exact iteF (h2 rfl)
/-- a new list, a new tuple -/
theorem same_new {H : Hp} {p : Addr} {o : HO} (h : H p = none) : Same H (upd H p o) := fun b z e => by
  rw [upd_ne (ne_of_none e h)]
  exact e
/-- a new list, a new tuple is laid -/
def NewL (xs : List V) (H : Hp) (Q : VK) : Prop := xs.length ≤ sizeLine ∧ ∀ p, H p = none → Q (.ref p) (upd H p (.lst xs))
def NewT (xs : List V) (H : Hp) (Q : VK) : Prop := xs.length ≤ sizeLine ∧ ∀ p, H p = none → Q (.ref p) (upd H p (.tup xs))
theorem g_newL {xs : List V} (hl : xs.length ≤ sizeLine) (q : ∀ p H2, H p = none → Same H H2 → H2 p = some (.lst xs) → Q (.ref p) H2) : NewL xs H Q :=
  ⟨hl, fun p hp => q p _ hp (same_new hp) upd_same⟩
theorem g_newT {xs : List V} (hl : xs.length ≤ sizeLine) (q : ∀ p H2, H p = none → Same H H2 → H2 p = some (.tup xs) → Q (.ref p) H2) : NewT xs H Q :=
  ⟨hl, fun p hp => q p _ hp (same_new hp) upd_same⟩
theorem g_lst (q : tr σ H fun xs H1 => NewL xs H1 Q) : tLst tr σ H Q := q
theorem g_tup (q : tr σ H fun xs H1 => NewT xs H1 Q) : tTup tr σ H Q := q
/-- a list and a list, one behind another -/
theorem g_cat {l b : Addr} {xs zs : List V} (h1 : H l = some (.lst xs)) (h2 : H b = some (.lst zs)) (hz : xs.length + zs.length ≤ sizeLine)
    (q : ∀ p H2, H p = none → Same H H2 → H2 p = some (.lst (xs ++ zs)) → Q (.ref p) H2) : rAddU (.ref l) (.ref b) H Q :=
  .inr ⟨l, b, xs, zs, rfl, rfl, h1, h2, hz, fun p hp => q p _ hp (same_new hp) upd_same⟩
theorem g_rep {l : Addr} {k : Int} {xs : List V} (h1 : H l = some (.lst xs)) (k0 : 0 ≤ k) (k1 : k ≤ 1000) (hz : xs.length * k.toNat ≤ sizeLine)
    (q : ∀ p H2, H p = none → Same H H2 → H2 p = some (.lst (List.replicate k.toNat xs).flatten) → Q (.ref p) H2) : rMulU (.ref l) (.int k) H Q :=
  .inr ⟨l, k, xs, rfl, rfl, h1, by omega, by omega, hz, fun p hp => q p _ hp (same_new hp) upd_same⟩
/-- built-in functions, their readings by name -/
def rIntU : List V → Hp → VK → Prop := fun xs H Q => (∃ i, xs = [.int i] ∧ Q (.int i) H) ∨ ∃ k, xs = [.bl k] ∧ Q (.int (if k then 1 else 0)) H
theorem call_intU {X : Cx} : CallR X (.type "int") rIntU := call_int1
def rAbsU : List V → Hp → VK → Prop := fun xs H Q => ∃ i, xs = [.int i] ∧ Q (.int (if i < 0 then -i else i)) H
theorem call_absU {X : Cx} : CallR X (.builtin "abs") rAbsU := call_abs
def rLenU (K : PySem.W.Frag) : List V → Hp → VK → Prop := fun xs H Q => ∃ x n, xs = [x] ∧ LenV K x H n ∧ Q (.int (n : Nat)) H
theorem call_lenU {X : Cx} : CallR X (.builtin "len") (rLenU X.K) := call_len
def rReprU (K : PySem.W.Frag) : List V → Hp → VK → Prop := fun xs H Q => ∃ (v : V) (d : PyData), xs = [v] ∧ Dp K H v d ∧
    d.showable = true ∧ d.hasDict = false ∧ d.depth ≤ 60 ∧ d.shown.length ≤ sizeLine ∧ Q (.str d.shown) H
theorem call_reprU {X : Cx} (hA : X.A.guards = some []) (hu : X.A.units + 64 < cLine) : CallR X (.builtin "repr") (rReprU X.K) := by
  intro pins s σ H xs us Q I r h
  obtain ⟨v, d, rfl, hd, hs, hn, hdep, hz, q⟩ := h
  have arm := @call_reprD X hA hu pins s σ H [v] us Q I r
  obtain ⟨u, rfl, rx⟩ := vals1 r
  cases hd with
  | non =>
    cases (show u = Value.none from rx)
    exact PySem.P.repr_of_none ⟨.str _, H, I.tok _, ⟨_, rfl⟩, q⟩
  | bl b =>
    cases (show u = Value.bool b from rx)
    exact PySem.P.repr_of_bool ⟨.str _, H, I.tok _, ⟨_, rfl⟩, q⟩
  | int i =>
    obtain ⟨t, rfl⟩ := (show ∃ t, u = Value.int i t from rx)
    exact PySem.P.repr_of_int (of_decide_eq_true hs) ⟨.str _, H, I.tok _, ⟨_, rfl⟩, q⟩
  | str x =>
    obtain ⟨t, rfl⟩ := (show ∃ t, u = Value.str x t from rx)
    exact PySem.P.repr_of_str ⟨.str _, H, I.tok _, ⟨_, rfl⟩, q⟩ hz
  | lst h1 h2 => exact arm ⟨_, _, rfl, .lst h1 h2, hs, hn, hdep, hz, q⟩
  | tup h1 h2 => exact arm ⟨_, _, rfl, .tup h1 h2, hs, hn, hdep, hz, q⟩
theorem g_int {i : Int} (q : Q (.int i) H) : rIntU [.int i] H Q := .inl ⟨i, rfl, q⟩
theorem g_intB {k : Bool} (q : Q (.int (if k then 1 else 0)) H) : rIntU [.bl k] H Q := .inr ⟨k, rfl, q⟩
theorem g_abs {i : Int} (q : Q (.int (if i < 0 then -i else i)) H) : rAbsU [.int i] H Q := ⟨i, rfl, q⟩
theorem g_isNn (q : Q (.bl true) H) : rIsN .non .non H Q := ⟨rfl, q⟩
theorem g_isNi {i : Int} (q : Q (.bl false) H) : rIsN (.int i) .non H Q := ⟨rfl, by simpa using q⟩
theorem g_repr {d : PyData} (h : Dp K H v d) (h1 : d.showable = true) (h2 : d.hasDict = false) (h3 : d.depth ≤ 60) (h4 : d.shown.length ≤ sizeLine) (q : Q (.str d.shown) H) : rReprU K [v] H Q :=
  ⟨v, d, rfl, h, h1, h2, h3, h4, q⟩
end

/-! ### what is kept but at q -/
structure SameX (q : Addr) (H H' : Hp) : Prop where
  kept : ∀ b o, b ≠ q → H b = some o → H' b = some o
  cell : ∀ c t r, H q = some (.lst [.ref c, t, r]) → ∃ t' r', H' q = some (.lst [.ref c, t', r'])
instance {q : Addr} {H H' : Hp} : CoeFun (SameX q H H') (fun _ => ∀ b o, b ≠ q → H b = some o → H' b = some o) := ⟨SameX.kept⟩
theorem Same.x {q : Addr} {H H' : Hp} (s : Same H H') : SameX q H H' := ⟨fun b o _ e => s b o e, fun c t r e => ⟨t, r, s _ _ e⟩⟩
theorem SameX.refl (q : Addr) (H : Hp) : SameX q H H := ⟨fun _ _ _ e => e, fun c t r e => ⟨t, r, e⟩⟩
theorem SameX.trans {q : Addr} {H H1 H2 : Hp} (a : SameX q H H1) (b : SameX q H1 H2) : SameX q H H2 := ⟨fun c o n e => b.kept c o n (a.kept c o n e), fun c t r e => by
  obtain ⟨t1, r1, e1⟩ := a.cell c t r e
  exact b.cell c t1 r1 e1⟩
theorem SameX.rd {q a : Addr} {H H' : Hp} {u : HO} (s : SameX q H H') (n : a ≠ q) (h : Rd H a u) : Rd H' a u := by
  rcases h with h | ⟨o, h⟩
  · exact .inl (s _ _ n h)
  · exact .inr ⟨o, s _ _ n h⟩
theorem SameX.seq {K : PySem.W.Frag} {q a : Addr} {H H' : Hp} {xs : List V} (s : SameX q H H') (n : a ≠ q) (h : SqL K H a xs) : SqL K H' a xs := by
  rcases h with h | h
  · exact .inl (s.rd n h)
  · exact .inr h
theorem SameX.tup {K : PySem.W.Frag} {q a : Addr} {H H' : Hp} {xs : List V} (s : SameX q H H') (n : a ≠ q) (h : SqT K H a xs) : SqT K H' a xs := by
  rcases h with h | h
  · exact .inl (s.rd n h)
  · exact .inr h
theorem seqU {K : PySem.W.Frag} {H : Hp} {a : Addr} {xs : List V} (h : H a = some (.lst xs)) : SqL K H a xs := .inl (.inl h)
theorem tupU {K : PySem.W.Frag} {H : Hp} {a : Addr} {xs : List V} (h : H a = some (.tup xs)) : SqT K H a xs := .inl (.inl h)

/-! ### what a value tells: any value of the laws' menus -/
mutual
inductive Dq (q : Addr) (K : PySem.W.Frag) (H : Hp) : V → PyData → Prop
  | non : Dq q K H .non .none
  | bl (b : Bool) : Dq q K H (.bl b) (.bool b)
  | int (i : Int) : Dq q K H (.int i) (.int i)
  | str (x : Str) : x.length ≤ 1000 → Dq q K H (.str x) (.str x)
  | lst {a : Addr} {xs : List V} {ds : List PyData} : a ≠ q → SqL K H a xs → DqAll q K H xs ds → Dq q K H (.ref a) (.list ds)
  | tup {a : Addr} {xs : List V} {ds : List PyData} : a ≠ q → SqT K H a xs → DqAll q K H xs ds → Dq q K H (.ref a) (.tuple ds)
  | dct {a : Addr} {kvs : List (Key × V)} : a ≠ q → H a = some (.dK kvs) → Dq q K H (.ref a) (.dict [])
inductive DqAll (q : Addr) (K : PySem.W.Frag) (H : Hp) : List V → List PyData → Prop
  | nil : DqAll q K H [] []
  | cons {v : V} {vs : List V} {d : PyData} {ds : List PyData} : Dq q K H v d → DqAll q K H vs ds → DqAll q K H (v :: vs) (d :: ds)
end
section
variable {q : Addr} {K : PySem.W.Frag} {H H' : Hp}
mutual
theorem Dq.go (s : SameX q H H') : ∀ {d : PyData} {v : V}, Dq q K H v d → Dq q K H' v d
  | _, _, .non => .non
  | _, _, .bl b => .bl b
  | _, _, .int i => .int i
  | _, _, .str x h => .str x h
  | _, _, .lst n h ha => .lst n (s.seq n h) (DqAll.go s ha)
  | _, _, .tup n h ha => .tup n (s.tup n h) (DqAll.go s ha)
  | _, _, .dct n h => .dct n (s _ _ n h)
theorem DqAll.go (s : SameX q H H') : ∀ {ds : List PyData} {vs : List V}, DqAll q K H vs ds → DqAll q K H' vs ds
  | _, _, .nil => .nil
  | _, _, .cons h t => .cons (Dq.go s h) (DqAll.go s t)
end
theorem DqAll.len : ∀ {vs : List V} {ds : List PyData}, DqAll q K H vs ds → vs.length = ds.length
  | _, _, .nil => rfl
  | _, _, .cons _ t => congrArg Nat.succ (DqAll.len t)
def noDct : PyData → Bool
  | .dict _ => false
  | .list ds | .tuple ds => all ds
  | _ => true
where all : List PyData → Bool
  | [] => true
  | d :: ds => noDct d && all ds
mutual
theorem Dq.dp : ∀ {d : PyData} {v : V}, Dq q K H v d → noDct d = true → Dp K H v d
  | _, _, .non, _ => .non
  | _, _, .bl b, _ => .bl b
  | _, _, .int i, _ => .int i
  | _, _, .str x h, _ => .str x
  | .list ds, _, .lst n h ha, e => .lst h (DqAll.dp ha (by unfold noDct at e; exact e))
  | .tuple ds, _, .tup n h ha, e => .tup h (DqAll.dp ha (by unfold noDct at e; exact e))
  | _, _, .dct n h, e => by unfold noDct at e; exact absurd e (by decide)
theorem DqAll.dp : ∀ {ds : List PyData} {vs : List V}, DqAll q K H vs ds → noDct.all ds = true → DpAll K H vs ds
  | _, _, .nil, _ => .nil
  | d :: ds, _, .cons h t, e => by
    unfold noDct.all at e
    rw [Bool.and_eq_true] at e
    exact .cons (Dq.dp h e.1) (DqAll.dp t e.2)
end
def tyN : PyData → String
  | .none => "NoneType"
  | .bool _ => "bool"
  | .int _ => "int"
  | .str _ => "str"
  | .list _ => "list"
  | .tuple _ => "tuple"
  | .dict _ => "dict"
theorem Dq.ty {d : PyData} {v : V} (h : Dq q K H v d) : TyX K H v (.type (tyN d)) := by
  cases h with
  | non => exact .base .non
  | bl b => exact .base (.bl b)
  | int i => exact .base (.int i)
  | str x => exact .base (.str x)
  | lst n h ha =>
    rcases h with (h | ⟨o, h⟩) | ⟨o, its, m, e, c, _⟩
    · exact .base (.lst h)
    · exact .base (.frz h)
    · exact .kList e c
  | tup n h ha =>
    rcases h with (h | ⟨o, h⟩) | ⟨o, its, m, e, c, _⟩
    · exact .base (.tup h)
    · exact .fTuple h
    · exact .kTuple e c
  | dct n h => exact .base (.dK h)
def isSeqD : PyData → Bool
  | .list _ | .tuple _ => true
  | _ => false
def isIntB : PyData → Bool
  | .int _ | .bool _ => true
  | _ => false
def isIntD : PyData → Bool
  | .int _ => true
  | _ => false
def posD : PyData → Bool
  | .int i => decide (1 ≤ i)
  | _ => false
def isFrD : PyData → Bool
  | .int _ => true
  | .list [a, b] | .tuple [a, b] => isIntD a && posD b
  | _ => false
theorem kit_seq (d : PyData) : PySem.W.kitAny K (.type (tyN d)) [.type "list", .type "tuple"] = some (isSeqD d) := by
  cases d with
  | none => exact kitAny_cons (b := false) (r := false) (kit_ty (show kitB "NoneType" "list" = some false by decide +kernel)) (fun _ => kitAny_cons (b := false) (r := false) (kit_ty (show kitB "NoneType" "tuple" = some false by decide +kernel)) (fun _ => kitAny_nil) (fun z => by cases z)) (fun z => by cases z)
  | bool _ => exact kitAny_cons (b := false) (r := false) (kit_ty (show kitB "bool" "list" = some false by decide +kernel)) (fun _ => kitAny_cons (b := false) (r := false) (kit_ty (show kitB "bool" "tuple" = some false by decide +kernel)) (fun _ => kitAny_nil) (fun z => by cases z)) (fun z => by cases z)
  | int _ => exact kitAny_cons (b := false) (r := false) (kit_ty (show kitB "int" "list" = some false by decide +kernel)) (fun _ => kitAny_cons (b := false) (r := false) (kit_ty (show kitB "int" "tuple" = some false by decide +kernel)) (fun _ => kitAny_nil) (fun z => by cases z)) (fun z => by cases z)
  | str _ => exact kitAny_cons (b := false) (r := false) (kit_ty (show kitB "str" "list" = some false by decide +kernel)) (fun _ => kitAny_cons (b := false) (r := false) (kit_ty (show kitB "str" "tuple" = some false by decide +kernel)) (fun _ => kitAny_nil) (fun z => by cases z)) (fun z => by cases z)
  | list _ => exact kitAny_cons (b := true) (r := true) (kit_ty (show kitB "list" "list" = some true by decide +kernel)) (fun z => by cases z) (fun _ => rfl)
  | tuple _ => exact kitAny_cons (b := false) (r := true) (kit_ty (show kitB "tuple" "list" = some false by decide +kernel)) (fun _ => kitAny_cons (b := true) (r := true) (kit_ty (show kitB "tuple" "tuple" = some true by decide +kernel)) (fun z => by cases z) (fun _ => rfl)) (fun z => by cases z)
  | dict _ => exact kitAny_cons (b := false) (r := false) (kit_ty (show kitB "dict" "list" = some false by decide +kernel)) (fun _ => kitAny_cons (b := false) (r := false) (kit_ty (show kitB "dict" "tuple" = some false by decide +kernel)) (fun _ => kitAny_nil) (fun z => by cases z)) (fun z => by cases z)
theorem kit_int (d : PyData) : PySem.W.kitOne K (.type (tyN d)) (.type "int") = some (isIntB d) := by
  cases d with
  | none => exact kit_ty (show kitB "NoneType" "int" = some false by decide +kernel)
  | bool _ => exact kit_ty (show kitB "bool" "int" = some true by decide +kernel)
  | int _ => exact kit_ty (show kitB "int" "int" = some true by decide +kernel)
  | str _ => exact kit_ty (show kitB "str" "int" = some false by decide +kernel)
  | list _ => exact kit_ty (show kitB "list" "int" = some false by decide +kernel)
  | tuple _ => exact kit_ty (show kitB "tuple" "int" = some false by decide +kernel)
  | dict _ => exact kit_ty (show kitB "dict" "int" = some false by decide +kernel)
def isTupD : PyData → Bool
  | .tuple _ => true
  | _ => false
theorem kit_tuple (d : PyData) : PySem.W.kitOne K (.type (tyN d)) (.type "tuple") = some (isTupD d) := by
  cases d with
  | none => exact kit_ty (show kitB "NoneType" "tuple" = some false by decide +kernel)
  | bool _ => exact kit_ty (show kitB "bool" "tuple" = some false by decide +kernel)
  | int _ => exact kit_ty (show kitB "int" "tuple" = some false by decide +kernel)
  | str _ => exact kit_ty (show kitB "str" "tuple" = some false by decide +kernel)
  | list _ => exact kit_ty (show kitB "list" "tuple" = some false by decide +kernel)
  | tuple _ => exact kit_ty (show kitB "tuple" "tuple" = some true by decide +kernel)
  | dict _ => exact kit_ty (show kitB "dict" "tuple" = some false by decide +kernel)
def isBoolD : PyData → Bool
  | .bool _ => true
  | _ => false
theorem kit_bool (d : PyData) : PySem.W.kitOne K (.type (tyN d)) (.type "bool") = some (isBoolD d) := by
  cases d with
  | none => exact kit_ty (show kitB "NoneType" "bool" = some false by decide +kernel)
  | bool _ => exact kit_ty (show kitB "bool" "bool" = some true by decide +kernel)
  | int _ => exact kit_ty (show kitB "int" "bool" = some false by decide +kernel)
  | str _ => exact kit_ty (show kitB "str" "bool" = some false by decide +kernel)
  | list _ => exact kit_ty (show kitB "list" "bool" = some false by decide +kernel)
  | tuple _ => exact kit_ty (show kitB "tuple" "bool" = some false by decide +kernel)
  | dict _ => exact kit_ty (show kitB "dict" "bool" = some false by decide +kernel)
variable {Q : VK} {σ : L2.St} {te : TE}
def SeqQ (K : PySem.W.Frag) (v : V) (H : Hp) (Q : VK) : Prop := ∃ t b, TyX K H v (.type t) ∧ PySem.W.kitAny K (.type t) [.type "list", .type "tuple"] = some b ∧ Q (.bl b) H
theorem g_seqP (h : te σ H fun x H1 => SeqQ K x H1 Q) : tSeqP K te σ H Q := h
theorem g_seqQ {v : V} {d : PyData} (h : Dq q K H v d) (k : Q (.bl (isSeqD d)) H) : SeqQ K v H Q :=
  ⟨_, _, h.ty, kit_seq d, k⟩
theorem g_isiI {v : V} {d : PyData} (h : Dq q K H v d) (k : Q (.bl (isIntB d)) H) : rIsi K [v, .ty "int"] H Q :=
  ⟨v, .ty "int", _, _, _, rfl, .ty "int", h.ty, kit_int d, k⟩
theorem g_isiT {v : V} {d : PyData} (h : Dq q K H v d) (k : Q (.bl (isTupD d)) H) : rIsi K [v, .ty "tuple"] H Q :=
  ⟨v, .ty "tuple", _, _, _, rfl, .ty "tuple", h.ty, kit_tuple d, k⟩
theorem g_isiB {v : V} {d : PyData} (h : Dq q K H v d) (k : Q (.bl (isBoolD d)) H) : rIsi K [v, .ty "bool"] H Q :=
  ⟨v, .ty "bool", _, _, _, rfl, .ty "bool", h.ty, kit_bool d, k⟩
/-- a list or a tuple -/
def Sq (K : PySem.W.Frag) (H : Hp) (a : Addr) (xs : List V) : Prop := SqL K H a xs ∨ SqT K H a xs
theorem Sq.go {a : Addr} {xs : List V} (s : SameX q H H') (n : a ≠ q) (h : Sq K H a xs) : Sq K H' a xs := by
  rcases h with h | h
  · exact .inl (s.seq n h)
  · exact .inr (s.tup n h)
theorem Dq.seq {d : PyData} {v : V} (h : Dq q K H v d) (e : isSeqD d = true) : ∃ a xs ds, v = .ref a ∧ a ≠ q ∧ Sq K H a xs ∧ DqAll q K H xs ds ∧ (d = .list ds ∨ d = .tuple ds) := by
  cases h with
  | lst n h ha => exact ⟨_, _, _, rfl, n, .inl h, ha, .inl rfl⟩
  | tup n h ha => exact ⟨_, _, _, rfl, n, .inr h, ha, .inr rfl⟩
  | _ => cases e
theorem g_ix {a : Addr} {xs : List V} {i : Int} {v : V} (h : Sq K H a xs) (e : atI xs i = some v) (k : Q v H) : rIx K (.ref a) (.int i) H Q := by
  rcases h with h | h
  · exact .inl ⟨a, xs, i, v, rfl, rfl, h, e, k⟩
  · exact .inr (.inl ⟨a, xs, i, v, rfl, rfl, h, e, k⟩)
theorem g_len {a : Addr} {xs : List V} (h : Sq K H a xs) (k : Q (.int (xs.length : Int)) H) : rLenU K [.ref a] H Q := by
  rcases h with h | h
  · exact ⟨.ref a, xs.length, rfl, .inl ⟨xs, h, rfl⟩, k⟩
  · exact ⟨.ref a, xs.length, rfl, .inr ⟨xs, h, rfl⟩, k⟩
def valD : PyData → Int
  | .int i => i
  | _ => 0
/-- a bound, or none -/
def bdV : Option Int → V
  | none => .non
  | some i => .int i
def loB (l : Option Int) (i : Int) : Bool := match l with | none => true | some m => decide (m ≤ i)
def hiB (l : Option Int) (i : Int) : Bool := match l with | none => true | some m => decide (i ≤ m)
def wthD (d : PyData) (l m : Option Int) : Bool := isIntD d && (loB l (valD d) && hiB m (valD d))
def isPlD : PyData → Bool
  | .list [a, b] | .tuple [a, b] => isFrD a && isFrD b
  | _ => false
theorem posD_eq (d : PyData) : posD d = wthD d (some 1) none := by
  cases d with
  | int i =>
    show decide (1 ≤ i) = (true && (decide (1 ≤ i) && true))
    rw [Bool.true_and, Bool.and_true]
  | _ => rfl
theorem Dq.int_of {d : PyData} {v : V} (h : Dq q K H v d) (e : isIntD d = true) : v = .int (valD d) ∧ d = .int (valD d) := by
  cases h with
  | int i => exact ⟨rfl, rfl⟩
  | _ => cases e
theorem frD_two {d : PyData} {ds : List PyData} (e : d = .list ds ∨ d = .tuple ds) (n : ds.length ≠ 2) : isFrD d = false ∧ isPlD d = false := by
  rcases e with rfl | rfl
  all_goals
    match ds, n with
    | [], _ => exact ⟨rfl, rfl⟩
    | [_], _ => exact ⟨rfl, rfl⟩
    | [_, _], n => exact absurd rfl n
    | _ :: _ :: _ :: _, _ => exact ⟨rfl, rfl⟩
theorem frD_of {d x y : PyData} (e : d = .list [x, y] ∨ d = .tuple [x, y]) : isFrD d = (isIntD x && posD y) ∧ isPlD d = (isFrD x && isFrD y) := by
  rcases e with rfl | rfl <;> exact ⟨rfl, rfl⟩
theorem frD_no {d : PyData} (e : isIntD d = false) (n : isSeqD d = false) : isFrD d = false := by
  cases d with
  | int i => cases e
  | list ds => cases n
  | tuple ds => cases n
  | _ => rfl
theorem plD_no {d : PyData} (n : isSeqD d = false) : isPlD d = false := by
  cases d with
  | list ds => cases n
  | tuple ds => cases n
  | _ => rfl
theorem frD_int {d : PyData} (e : isIntD d = true) : isFrD d = true := by
  cases d with
  | int i => rfl
  | _ => cases e
theorem two_of {vs : List V} {ds : List PyData} (h : DqAll q K H vs ds) (e : vs.length = 2) : ∃ x y a b, vs = [x, y] ∧ ds = [a, b] ∧ Dq q K H x a ∧ Dq q K H y b := by
  cases h with
  | nil => cases e
  | cons h1 t => cases t with
    | nil => cases e
    | cons h2 t => cases t with
      | nil => exact ⟨_, _, _, _, rfl, rfl, h1, h2⟩
      | cons h3 t =>
        rw [List.length_cons, List.length_cons, List.length_cons] at e
        omega
theorem relR {vs : List V} {us : List Value} {ks : List Str} (r : Vals vs us) (_ : us.length = ks.length) : Vals vs.reverse us.reverse := r.reverse
theorem lenR {ps ks : List Str} (h : ps.length = ks.length) (vs : List V) (e : vs.reverse.length = ps.length) : vs.length = ks.length := by
  rw [List.length_reverse] at e
  omega
end
end Mf
namespace Mf
open PySem PySem.Spec PyProof.Rows L2
section
variable {K : PySem.W.Frag} {σ : L2.St} {H H1 : Hp} {Q : VK} {v x y : V} {ta tb te tl : TE} {tt : TT} {tr : TA} {g : TG} {vs : List Nat}
/-! ### slices, comprehensions -/
theorem g_sl {r : V → Option Int → Option Int → Hp → VK → Prop} {to th : TO} (q : te σ H fun x H1 => to σ H1 fun l H2 => th σ H2 fun u H3 => r x l u H3 Q) : tSl r te to th σ H Q := q
theorem g_noPart {R : Option Int → Hp → Prop} (q : R none H) : tNoPart σ H R := q
theorem g_part {R : Option Int → Hp → Prop} (q : te σ H fun x H1 => ∃ i, x = .int i ∧ R (some i) H1) : tPart te σ H R := q
theorem g_ii {i : Int} {R : Int → Prop} (q : R i) : ∃ j, V.int i = .int j ∧ R j := ⟨i, rfl, q⟩
theorem g_slL {a : Addr} {xs : List V} {lo hi : Option Int} (h : SqL K H a xs) (q : ∀ p H2, H p = none → Same H H2 → H2 p = some (.lst (cutV xs lo hi)) → Q (.ref p) H2) : rSlL K (.ref a) lo hi H Q :=
  ⟨a, xs, rfl, h, fun p hp => q p _ hp (same_new hp) upd_same⟩
theorem cut_ints (ns : List Int) (lo hi : Option Int) : ∃ ms : List Int, cutV (ns.map V.int) lo hi = ms.map V.int ∧ ms.length ≤ ns.length := by
  unfold cutV
  refine ⟨(ns.drop (HT.sIx (ns.map V.int).length 0 lo)).take (HT.sIx (ns.map V.int).length (ns.map V.int).length hi - HT.sIx (ns.map V.int).length 0 lo), ?_, ?_⟩
  · rw [List.map_take, List.map_drop]
  · rw [List.length_take, List.length_drop]
    omega
/-- what a comprehension asks once its walked thing is there -/
def LcGo (J : It) (g : TG) (tt : TT) (te : TE) (vs : List Nat) (σ : L2.St) (H1 : Hp) (Q : VK) : Prop := ∀ D, H1 D = none → ∃ W : Nat → Nat → Hp → Prop, (∃ m, W 0 m (upd H1 D (.lst []))) ∧
  ∀ i m H, W i m H → (J.stop i H ∧ Q (.ref D) H) ∨ (J.go i H ∧ ∃ Nx : Hp → Prop, (∀ H', Nx H' → ∃ m', m' < m ∧ W (i + 1) m' H') ∧
    ∀ x H', J.yld i H x H' → g x (wipe σ vs) H' fun σ2 H2 => wipe σ2 vs = wipe σ vs ∧ tt σ2 H2 fun b H3 =>
      if b = true then te σ2 H3 fun y H4 => ∃ acc, H4 D = some (.lst acc) ∧ acc.length < sizeLine ∧ Nx (upd H4 D (.lst (acc ++ [y]))) else Nx H3)
theorem g_lcL (q : tl σ H fun x H1 => ∃ a, x = .ref a ∧ (∃ xs, SqL K H1 a xs) ∧ LcGo (Itl K a) g tt te vs σ H1 Q) : tLc (iList K tl) g tt te vs σ H Q := q
theorem g_lcR (q : tr σ H fun us H1 => ∃ j : Int, us = [.int j] ∧ -(2 ^ 62) ≤ j ∧ j < 2 ^ 62 ∧ LcGo (Itr 0 j.toNat) g tt te vs σ H1 Q) : tLc (iRng1 tr) g tt te vs σ H Q := q
theorem lcgo_list {a : Addr} {xs : List V} {j : Nat} (Pv : Addr → Nat → Hp → Prop) (hw : ∀ x, wipe ((wipe σ vs).set j (some x)) vs = wipe σ vs)
    (h0 : ∀ D, H1 D = none → Pv D 0 (upd H1 D (.lst []))) (hl : ∀ D i H, i ≤ xs.length → Pv D i H → SqL K H a xs)
    (hs : ∀ D i x H, H1 D = none → xs[i]? = some x → Pv D i H → te ((wipe σ vs).set j (some x)) H fun y H4 => ∃ acc, H4 D = some (.lst acc) ∧ acc.length < sizeLine ∧ Pv D (i + 1) (upd H4 D (.lst (acc ++ [y]))))
    (hd : ∀ D H, H1 D = none → Pv D xs.length H → Q (.ref D) H) : LcGo (Itl K a) (gName j) tYes te vs σ H1 Q :=
  fun D hD => lc_list (xs := xs) (Pv D) (h0 D hD) (hl D) (fun i x H e p => ⟨hw x, hs D i x H hD e p⟩) (fun H p => hd D H hD p)
theorem lcgo_range {n j : Nat} (Pv : Addr → Nat → Hp → Prop) (hw : ∀ x, wipe ((wipe σ vs).set j (some x)) vs = wipe σ vs)
    (h0 : ∀ D, H1 D = none → Pv D 0 (upd H1 D (.lst [])))
    (hs : ∀ D i H, H1 D = none → i < n → Pv D i H → te ((wipe σ vs).set j (some (.int (0 + (i : Int))))) H fun y H4 => ∃ acc, H4 D = some (.lst acc) ∧ acc.length < sizeLine ∧ Pv D (i + 1) (upd H4 D (.lst (acc ++ [y]))))
    (hd : ∀ D H, H1 D = none → Pv D n H → Q (.ref D) H) : LcGo (Itr 0 n) (gName j) tYes te vs σ H1 Q :=
  fun D hD => lc_range (lo := 0) (n := n) (Pv D) (h0 D hD) (fun i H e p => ⟨hw _, hs D i H hD e p⟩) (fun H p => hd D H hD p)

/-! ### numbers -/
theorem g_mod {i j : Int} (h : 0 < j) (q : Q (.int (i % j)) H) : rI (fun _ j => 0 < j) (fun i j => .int (i % j)) (.int i) (.int j) H Q := ⟨i, j, rfl, rfl, h, q⟩
theorem g_div {i j : Int} (h : 0 < j) (h2 : j.natAbs.log2 < 9000) (q : Q (.int (i / j)) H) : rI CDivW (fun i j => .int (i / j)) (.int i) (.int j) H Q := ⟨i, j, rfl, rfl, ⟨h, h2⟩, q⟩
theorem g_pow {i j : Int} (h1 : 0 ≤ j) (h2 : j ≤ 1000000) (h : i.natAbs < 2 ^ 64) (q : Q (.int (i ^ j.toNat)) H) : rI CPow (fun i j => .int (i ^ j.toNat)) (.int i) (.int j) H Q := ⟨i, j, rfl, rfl, ⟨h1, h2, h⟩, q⟩
theorem g_mulL {i j : Int} (h1 : -(2 ^ 64) < i) (h2 : i < 2 ^ 64) (q : Q (.int (i * j)) H) : rMulU (.int i) (.int j) H Q := .inl ⟨i, j, rfl, rfl, .inl (.inl ⟨h1, h2⟩), q⟩
theorem g_mulR {i j : Int} (h1 : -(2 ^ 64) < j) (h2 : j < 2 ^ 64) (q : Q (.int (i * j)) H) : rMulU (.int i) (.int j) H Q := .inl ⟨i, j, rfl, rfl, .inl (.inr ⟨h1, h2⟩), q⟩
theorem g_mulW {i j : Int} (h : i.natAbs.log2 + j.natAbs.log2 < 1000000) (q : Q (.int (i * j)) H) : rMulU (.int i) (.int j) H Q := .inl ⟨i, j, rfl, rfl, .inr h, q⟩
theorem g_ltI {i j : Int} (q : Q (.bl (decide (i < j))) H) : rI0 (fun i j => .bl (decide (i < j))) (.int i) (.int j) H Q := ⟨i, j, rfl, rfl, q⟩
theorem g_neNil {c p : Addr} {ns : List Int} (h1 : SqL K H c (ns.map V.int)) (h2 : SqL K H p []) (q : Q (.bl (!ns.isEmpty)) H) : rNeU K (.ref c) (.ref p) H Q := by
  have dall : ∀ l : List Int, DpAll K H (l.map V.int) (l.map PyData.int) := fun l => by
    induction l with
    | nil => exact .nil
    | cons z r ih => exact .cons (.int z) ih
  have lay : ∀ l : List Int, PyData.canLayAll0 (l.map PyData.int) = true := fun l => by
    induction l with
    | nil => rfl
    | cons z r ih =>
      show (true && PyData.canLayAll0 (r.map PyData.int)) = true
      rw [ih]
      rfl
  have dep : ∀ l : List Int, PyData.depthAll (l.map PyData.int) ≤ 1 := fun l => by
    induction l with
    | nil => decide
    | cons z r ih =>
      rw [List.map_cons]
      simp only [PyData.depthAll, PyData.depth]
      omega
  refine .inr ⟨.list (ns.map PyData.int), .list [], .lst h1 (dall ns), .lst h2 .nil, ?_, by decide, ?_⟩
  · unfold SeqAt.shaped
    rw [Bool.and_eq_true]
    refine ⟨lay ns, decide_eq_true ?_⟩
    have := dep ns
    simp only [PyData.depth]
    omega
  · cases ns with
    | nil => exact q
    | cons z r => exact q
theorem g_sub {to ti : TE} {t : TSet} {R : L2.St → Hp → Prop} (q : to σ H fun o H1 => ti σ H1 fun i H2 => t o i v H2 fun H3 => R σ H3) : gSub to ti t v σ H R := q
theorem g_setL {p : Addr} {xs : List V} {k : Int} {j : Nat} {R : Hp → Prop} (h : H p = some (.lst xs)) (e : ixN xs.length k = some j) (q : R (upd H p (.lst (xs.set j v)))) : rSetL (.ref p) (.int k) v H R := ⟨p, xs, k, j, rfl, rfl, h, e, q⟩
theorem stir_bd {s t a b c : Int} (hs0 : 0 ≤ s) (hs : s < 2147483648) (ht0 : 0 ≤ t) (ht : t ≤ 1000000) (ha0 : 0 ≤ a) (ha : a ≤ 100000) (hb0 : 0 ≤ b) (hb : b ≤ 1000000) (hc0 : 0 ≤ c) (hc : c ≤ 1000000) :
    (s * (2 * t + a) + b * t * t + c).natAbs < 2 ^ 64 := by
  have h1 : s * (2 * t + a) ≤ 2147483648 * 2100000 := Int.mul_le_mul (by omega) (by omega) (by omega) (by omega)
  have h2 : 0 ≤ s * (2 * t + a) := Int.mul_nonneg hs0 (by omega)
  have h3 : b * t ≤ 1000000 * 1000000 := Int.mul_le_mul hb ht ht0 (by omega)
  have h4 : 0 ≤ b * t := Int.mul_nonneg hb0 ht0
  have h5 : b * t * t ≤ 1000000000000 * 1000000 := Int.mul_le_mul (by omega) ht ht0 (by omega)
  have h6 : 0 ≤ b * t * t := Int.mul_nonneg h4 ht0
  generalize s * (2 * t + a) = p at *
  generalize b * t * t = r at *
  omega
end

/-! ### what draws -/
/-- q holds the cells, how many were begun, what is left -/
def Qy (K : PySem.W.Frag) (q : Addr) (t : Int) (H : Hp) : Prop := ∃ (c : Addr) (ns : List Int) (r : Int), H q = some (.lst [.ref c, .int t, .int r]) ∧ H c = some (.lst (ns.map V.int)) ∧ c ≠ q ∧ ns.length ≤ 63 ∧ 0 ≤ r ∧ 0 ≤ t
theorem Qy.same {K : PySem.W.Frag} {q : Addr} {t : Int} {H H' : Hp} (s : Same H H') (h : Qy K q t H) : Qy K q t H' := by
  obtain ⟨c, ns, r, h1, h2, h3, h4, h5, h6⟩ := h
  exact ⟨c, ns, r, s _ _ h1, s _ _ h2, h3, h4, h5, h6⟩
theorem Qy.nn {K : PySem.W.Frag} {q : Addr} {t : Int} {H : Hp} (h : Qy K q t H) : 0 ≤ t := by
  obtain ⟨c, ns, r, h1, h2, h3, h4, h5, h6⟩ := h
  exact h6
theorem Qy.at {K : PySem.W.Frag} {q : Addr} {t : Int} {H : Hp} (h : Qy K q t H) : ∃ o, H q = some o := by
  obtain ⟨c, ns, r, h1, _⟩ := h
  exact ⟨_, h1⟩
theorem Qy.ne {K : PySem.W.Frag} {q p : Addr} {t : Int} {H : Hp} (h : Qy K q t H) (e : H p = none) : p ≠ q := by
  obtain ⟨o, h1⟩ := h.at
  exact (ne_of_none h1 e).symm
theorem upd_x {q c : Addr} {H : Hp} {t r t' r' : V} (h : H q = some (.lst [.ref c, t, r])) : SameX q H (upd H q (.lst [.ref c, t', r'])) := by
  refine ⟨fun b z n e => ?_, fun c2 t2 r2 e => ⟨t', r', ?_⟩⟩
  · rw [upd_ne n]
    exact e
  · rw [h] at e
    cases e
    exact upd_same
/-- the cells' address is not d -/
def Qn (q d : Addr) (H : Hp) : Prop := ∀ c t r, H q = some (.lst [.ref c, t, r]) → c ≠ d
theorem Qn.go {K : PySem.W.Frag} {q d : Addr} {t : Int} {H H' : Hp} (h : Qn q d H) (hq : Qy K q t H) (s : SameX q H H') : Qn q d H' := by
  obtain ⟨c, ns, r, h1, _⟩ := hq
  obtain ⟨t2, r2, e2⟩ := s.cell c _ _ h1
  intro c' t' r' e'
  rw [e2] at e'
  cases e'
  exact h c _ _ h1
theorem Qn.new {K : PySem.W.Frag} {q d : Addr} {t : Int} {H : Hp} (hq : Qy K q t H) (e : H d = none) : Qn q d H := by
  obtain ⟨c, ns, r, h1, h2, _⟩ := hq
  intro c' t' r' e'
  rw [h1] at e'
  cases e'
  exact ne_of_none h2 e
theorem Qy.upd {K : PySem.W.Frag} {q d : Addr} {t : Int} {H : Hp} {o : HO} (hq : Qy K q t H) (hn : Qn q d H) (n : d ≠ q) : Qy K q t (upd H d o) := by
  obtain ⟨c, ns, r, h1, h2, h3, h4, h5, h6⟩ := hq
  refine ⟨c, ns, r, ?_, ?_, h3, h4, h5, h6⟩
  · rw [upd_ne n.symm]
    exact h1
  · rw [upd_ne (hn c _ _ h1)]
    exact h2
theorem Qn.upd {K : PySem.W.Frag} {q d : Addr} {t : Int} {H : Hp} {o : HO} (hq : Qy K q t H) (hn : Qn q d H) (n : d ≠ q) : Qn q d (L2.upd H d o) := by
  intro c' t' r' e'
  rw [upd_ne n.symm] at e'
  exact hn c' t' r' e'
def sp_quay (K : PySem.W.Frag) : Sp := fun vs H Q _ => ∃ (a : Addr) (ns : List Int), vs = [.ref a] ∧ SqL K H a (ns.map V.int) ∧ ns.length ≤ 63 ∧ ∀ q H', Same H H' → H q = none → Qy K q 0 H' → Q (.ref q) H'
def sp_moor (K : PySem.W.Frag) : Sp := fun vs H Q _ => ∃ (q : Addr) (t n : Int), vs = [.ref q, .int n] ∧ Qy K q t H ∧ t ≤ 1000000 ∧ 0 < n ∧ n.natAbs.log2 < 9000 ∧
  ∀ t' H' i, SameX q H H' → Qy K q t' H' → t ≤ t' → t' ≤ t + 1 → 0 ≤ i → i < n → Q (.int i) H'
def sp_pick (K : PySem.W.Frag) : Sp := fun vs H Q _ => ∃ (q a : Addr) (t : Int) (xs : List V), vs = [.ref q, .ref a] ∧ Qy K q t H ∧ t ≤ 1000000 ∧ a ≠ q ∧ Sq K H a xs ∧ xs ≠ [] ∧ xs.length ≤ 1000 ∧
  ∀ t' H' x, SameX q H H' → Qy K q t' H' → t ≤ t' → t' ≤ t + 1 → x ∈ xs → Q x H'
end Mf
namespace Mf
open PySem PySem.Spec PyProof.Rows L2
/-! ### what a menu's items come to -/
def EvD (q : Addr) (K : PySem.W.Frag) (te : TE) (σ : L2.St) (H : Hp) (d : PyData) : Prop := ∀ H1, Same H H1 → ∀ Q : VK, (∀ v H2, Same H1 H2 → Dq q K H2 v d → Q v H2) → te σ H1 Q
def EvDs (q : Addr) (K : PySem.W.Frag) (ta : TA) (σ : L2.St) (H : Hp) (ds : List PyData) : Prop := ∀ H1, Same H H1 → ∀ Q : List V → Hp → Prop, (∀ vs H2, Same H1 H2 → DqAll q K H2 vs ds → Q vs H2) → ta σ H1 Q
section
variable {q : Addr} {K : PySem.W.Frag} {σ : L2.St} {H : Hp} {te tb : TE} {ta : TA} {d : PyData} {ds : List PyData}
theorem ed_var {i : Nat} {v : V} (e : σ[i]? = some (some v)) (h : Dq q K H v d) : EvD q K (tVar i) σ H d := fun H1 s Q k => ⟨v, e, k v H1 (Same.refl _) (h.go (Same.x s))⟩
theorem ed_int {i : Int} : EvD q K (tC (.int i)) σ H (.int i) := fun H1 _ Q k => k _ H1 (Same.refl _) (.int i)
theorem ed_bl {b : Bool} : EvD q K (tC (.bl b)) σ H (.bool b) := fun H1 _ Q k => k _ H1 (Same.refl _) (.bl b)
theorem ed_non : EvD q K (tC .non) σ H .none := fun H1 _ Q k => k _ H1 (Same.refl _) .non
theorem ed_str {x : Str} (h : x.length ≤ 1000) : EvD q K (tC (.str x)) σ H (.str x) := fun H1 _ Q k => k _ H1 (Same.refl _) (.str x h)
theorem ed_neg {i : Int} (h : EvD q K te σ H (.int i)) : EvD q K (tUn (rU fun i => .int (-i)) te) σ H (.int (-i)) := fun H1 s Q k => h H1 s _ fun v H2 s2 hd => by
  cases hd
  exact ⟨i, rfl, k _ H2 s2 (.int _)⟩
theorem ed_pow {i j : Int} (h1 : EvD q K te σ H (.int i)) (h2 : EvD q K tb σ H (.int j)) (c : CPow i j) : EvD q K (tOp (rI CPow fun i j => .int (i ^ j.toNat)) te tb) σ H (.int (i ^ j.toNat)) := fun H1 s Q k => h1 H1 s _ fun v H2 s2 hd => by
  cases hd
  exact h2 H2 (s.trans s2) _ fun v H3 s3 hd => by
    cases hd
    exact ⟨i, j, rfl, rfl, c, k _ H3 (s2.trans s3) (.int _)⟩
theorem ed_mul {i j : Int} (h1 : EvD q K te σ H (.int i)) (h2 : EvD q K tb σ H (.int j)) (c : CMulU i j) : EvD q K (tOp rMulU te tb) σ H (.int (i * j)) := fun H1 s Q k => h1 H1 s _ fun v H2 s2 hd => by
  cases hd
  exact h2 H2 (s.trans s2) _ fun v H3 s3 hd => by
    cases hd
    exact .inl ⟨i, j, rfl, rfl, c, k _ H3 (s2.trans s3) (.int _)⟩
theorem eds_nil : EvDs q K tNil σ H [] := fun H1 _ Q k => k [] H1 (Same.refl _) .nil
theorem eds_cons (h : EvD q K te σ H d) (t : EvDs q K ta σ H ds) : EvDs q K (tCons te ta) σ H (d :: ds) := fun H1 s Q k => h H1 s _ fun v H2 s2 hd => t H2 (s.trans s2) _ fun vs H3 s3 hds =>
  k (v :: vs) H3 (s2.trans s3) (.cons (hd.go (Same.x s3)) hds)
theorem ed_tup {o : HO} (hq : H q = some o) (h : EvDs q K ta σ H ds) (hl : ds.length ≤ 1000) : EvD q K (tTup ta) σ H (.tuple ds) := fun H1 s Q k => h H1 s _ fun vs H2 s2 hds =>
  ⟨by rw [hds.len]; exact Nat.le_of_lt (small1000 hl), fun p hp => k _ _ (s2.trans (same_new hp)) (.tup (ne_of_none ((s.trans s2) _ _ hq) hp).symm (tupU upd_same) (hds.go (Same.x (same_new hp))))⟩
theorem ed_lst {o : HO} (hq : H q = some o) (h : EvDs q K ta σ H ds) (hl : ds.length ≤ 1000) : EvD q K (tLst ta) σ H (.list ds) := fun H1 s Q k => h H1 s _ fun vs H2 s2 hds =>
  ⟨by rw [hds.len]; exact Nat.le_of_lt (small1000 hl), fun p hp => k _ _ (s2.trans (same_new hp)) (.lst (ne_of_none ((s.trans s2) _ _ hq) hp).symm (seqU upd_same) (hds.go (Same.x (same_new hp))))⟩
theorem ed_dict0 {o : HO} (hq : H q = some o) : EvD q K tDNewK σ H (.dict []) := fun H1 s Q k p hp => k _ _ (same_new hp) (.dct (ne_of_none (s _ _ hq) hp).symm upd_same)
theorem ed_dict2 {o : HO} (hq : H q = some o) {a b c d : Int} : EvD q K (tDisp [(tC (.int a), tC (.int b)), (tC (.int c), tC (.int d))]) σ H (.dict []) := fun H1 s Q k p hp =>
  ⟨upd_same, [(.inl a, .int b), (.inl c, .int d)], rfl, by show 2 ≤ 15; decide, by
    rw [upd_upd]
    exact k _ _ (same_new hp) (.dct (ne_of_none (s _ _ hq) hp).symm upd_same)⟩
/-- .. and used -/
theorem EvDs.run {Q : List V → Hp → Prop} (h : EvDs q K ta σ H ds) (k : ∀ vs H2, Same H H2 → DqAll q K H2 vs ds → Q vs H2) : ta σ H Q := h H (Same.refl _) Q k
theorem EvD.run {Q : VK} (h : EvD q K te σ H d) (k : ∀ v H2, Same H H2 → Dq q K H2 v d → Q v H2) : te σ H Q := h H (Same.refl _) Q k
theorem DqAll.mem : ∀ {vs : List V} {ds : List PyData} {x : V}, DqAll q K H vs ds → x ∈ vs → ∃ d ∈ ds, Dq q K H x d
  | _, _, _, .nil, h => absurd h List.not_mem_nil
  | _, _, _, .cons h t, hx => by
    rcases List.mem_cons.mp hx with rfl | hx
    · exact ⟨_, List.mem_cons_self, h⟩
    · obtain ⟨d, m, e⟩ := DqAll.mem t hx
      exact ⟨d, List.mem_cons_of_mem _ m, e⟩
theorem DqAll.app : ∀ {vs ws : List V} {ds es : List PyData}, DqAll q K H vs ds → DqAll q K H ws es → DqAll q K H (vs ++ ws) (ds ++ es)
  | _, _, _, _, .nil, h => h
  | _, _, _, _, .cons h t, h2 => .cons h (DqAll.app t h2)
/-- data that can be compared and shown -/
def okD (d : PyData) : Bool := noDct d && (d.canLay0 && decide (d.depth ≤ 60))
def okV (d : PyData) : Bool := match d with | .dict _ => true | d => okD d
def okO (d : PyData) : Bool := match d with | .list [a, b] | .tuple [a, b] => okD a && okD b | _ => true
end
theorem noDct_parts : ∀ {ds : List PyData}, noDct.all ds = true → ∀ d ∈ ds, noDct d = true
  | [], _, d, hd => absurd hd List.not_mem_nil
  | x :: r, h, d, hd => by
    unfold noDct.all at h
    rw [Bool.and_eq_true] at h
    rcases List.mem_cons.mp hd with rfl | hd
    · exact h.1
    · exact noDct_parts h.2 d hd
theorem lay_parts : ∀ {ds : List PyData}, PyData.canLayAll0 ds = true → PyData.depthAll ds ≤ 60 → ∀ d ∈ ds, d.canLay0 = true ∧ d.depth ≤ 60
  | [], _, _, d, hd => absurd hd List.not_mem_nil
  | x :: r, h, e, d, hd => by
    have h' : (x.canLay0 && PyData.canLayAll0 r) = true := h
    rw [Bool.and_eq_true] at h'
    simp only [PyData.depthAll] at e
    rcases List.mem_cons.mp hd with rfl | hd
    · exact ⟨h'.1, by omega⟩
    · exact lay_parts h'.2 (by omega) d hd
theorem okD_parts {d : PyData} {ds : List PyData} (e : d = .list ds ∨ d = .tuple ds) (h : okD d = true) : ∀ x ∈ ds, okD x = true := by
  unfold okD at h
  rw [Bool.and_eq_true, Bool.and_eq_true] at h
  obtain ⟨h1, h2, h3⟩ := h
  have h3 := of_decide_eq_true h3
  intro x hx
  have key : noDct.all ds = true ∧ PyData.canLayAll0 ds = true ∧ PyData.depthAll ds ≤ 60 := by
    rcases e with rfl | rfl
    all_goals
      unfold noDct at h1
      simp only [PyData.depth] at h3
      exact ⟨h1, h2, by omega⟩
  obtain ⟨k1, k2, k3⟩ := key
  have := lay_parts k2 k3 x hx
  unfold okD
  rw [Bool.and_eq_true, Bool.and_eq_true]
  exact ⟨noDct_parts k1 x hx, this.1, decide_eq_true this.2⟩
theorem okO_of {d : PyData} (h : okV d = true) : okO d = true := by
  unfold okO
  split
  · rename_i a b
    rw [Bool.and_eq_true]
    exact ⟨okD_parts (.inl rfl) h a (List.mem_cons_self), okD_parts (.inl rfl) h b (List.mem_cons_of_mem _ List.mem_cons_self)⟩
  · rename_i a b
    rw [Bool.and_eq_true]
    exact ⟨okD_parts (.inr rfl) h a (List.mem_cons_self), okD_parts (.inr rfl) h b (List.mem_cons_of_mem _ List.mem_cons_self)⟩
  · rfl
section
variable {q : Addr} {K : PySem.W.Frag} {H : Hp} {Q : VK} {σ : L2.St} {te : TE}
theorem okD_all : ∀ {ds : List PyData}, (∀ d ∈ ds, okD d = true) → noDct.all ds = true ∧ PyData.canLayAll0 ds = true ∧ PyData.depthAll ds ≤ 60
  | [], _ => ⟨rfl, rfl, by decide⟩
  | d :: ds, h => by
    have h1 := h d List.mem_cons_self
    obtain ⟨i1, i2, i3⟩ := okD_all fun e he => h e (List.mem_cons_of_mem _ he)
    unfold okD at h1
    rw [Bool.and_eq_true, Bool.and_eq_true] at h1
    obtain ⟨k1, k2, k3⟩ := h1
    have k3 := of_decide_eq_true k3
    refine ⟨?_, ?_, ?_⟩
    · unfold noDct.all
      rw [k1, i1]
      rfl
    · show (d.canLay0 && PyData.canLayAll0 ds) = true
      rw [k2, i2]
      rfl
    · simp only [PyData.depthAll]
      omega
/-- a list of such == [] -/
theorem g_eqNilD {c p : Addr} {vs : List V} {ds : List PyData} (h1 : SqL K H c vs) (hall : DqAll q K H vs ds) (hok : ∀ d ∈ ds, okD d = true) (h2 : SqL K H p []) (k : Q (.bl vs.isEmpty) H) : rEqU K (.ref c) (.ref p) H Q := by
  obtain ⟨i1, i2, i3⟩ := okD_all hok
  refine .inr ⟨.list ds, .list [], .lst h1 (hall.dp i1), .lst h2 .nil, ?_, by decide, ?_⟩
  · unfold SeqAt.shaped
    rw [Bool.and_eq_true]
    refine ⟨i2, decide_eq_true ?_⟩
    simp only [PyData.depth]
    omega
  · cases hall with
    | nil => exact k
    | cons _ _ => exact k
/-- what is reckoned apart -/
theorem cut_te {v : V} (h1 : ∀ Q : VK, Q v H → te σ H Q) (h2 : Q v H) : te σ H Q := h1 Q h2
theorem cut_teS {v : V} (h1 : ∀ Q : VK, (∀ H', Same H H' → Q v H') → te σ H Q) (h2 : ∀ H', Same H H' → Q v H') : te σ H Q := h1 Q h2
theorem bb_len : ∀ b c : Bool, (PyData.list [.bool b, .bool c]).shown.length ≤ sizeLine := by decide +kernel
theorem b_len : ∀ b : Bool, (PyData.bool b).shown.length ≤ sizeLine := by decide +kernel
theorem g_reprBB {p : Addr} {b c : Bool} (e : H p = some (.lst [.bl b, .bl c])) (k : Q (.str (PyData.list [.bool b, .bool c]).shown) H) : rReprU K [.ref p] H Q :=
  g_repr (.lst (seqU e) (.cons (.bl b) (.cons (.bl c) .nil))) rfl rfl (Nat.le_of_ble_eq_true rfl) (bb_len b c) k
theorem g_reprB {b : Bool} (k : Q (.str (PyData.bool b).shown) H) : rReprU K [.bl b] H Q := g_repr (.bl b) rfl rfl (Nat.le_of_ble_eq_true rfl) (b_len b) k
theorem g_neSs {x : Str} (k : Q (.bl false) H) : rNeU K (.str x) (.str x) H Q := g_neS (by rw [decide_eq_true rfl]; exact k)
theorem g_par {i j : Nat} {ta : TA} {D : Ends} (k : ta σ H fun vs H1 => ∃ u v, vs = [u, v] ∧ D.nx ((σ.set i (some u)).set j (some v)) H1) : tPar i j ta D σ H := k
theorem g_par3 {i j l : Nat} {ta : TA} {D : Ends} (k : ta σ H fun vs H1 => ∃ u v w, vs = [u, v, w] ∧ D.nx (((σ.set i (some u)).set j (some v)).set l (some w)) H1) : tPar3 i j l ta D σ H := k
theorem g_vv {x y : V} {P : V → V → Prop} (k : P x y) : ∃ u v, [x, y] = [u, v] ∧ P u v := ⟨x, y, rfl, k⟩
theorem g_vvv {x y z : V} {P : V → V → V → Prop} (k : P x y z) : ∃ u v w, [x, y, z] = [u, v, w] ∧ P u v w := ⟨x, y, z, rfl, k⟩
/-- a for over range(n) -/
theorem g_for1 {n : Int} {j : Nat} {tb : TS} {D : Ends} (hn : 0 ≤ n ∧ n ≤ 1000) (Pv : Nat → L2.St → Hp → Prop) (h0 : Pv 0 σ H)
    (hs : ∀ i σ H, i < n.toNat → Pv i σ H → tb ⟨Pv (i + 1), D.rt, D.nx, Pv (i + 1)⟩ (σ.set j (some (.int (0 + (i : Int))))) H) (hd : ∀ σ H, Pv n.toNat σ H → D.nx σ H) :
    tFor (iRng1 (tCons (tC (.int n)) tNil)) (gName j) tb D σ H :=
  ⟨n, rfl, by omega, by omega, for_range (lo := 0) (n := n.toNat) Pv h0 (fun i σ H hi p => hs i σ H hi p) hd⟩
theorem mem_bd {x : V} {ls : List (Option Int)} (h : x ∈ ls.map bdV) : ∃ l, x = bdV l := by
  obtain ⟨l, _, e⟩ := List.mem_map.mp h
  exact ⟨l, e.symm⟩
end
section
variable {K : PySem.W.Frag} {σ : L2.St} {H H1 : Hp} {Q : VK} {te : TE} {tt : TT} {vs : List Nat}
theorem g_lcO1 {g : TG} {tl : TE} (q : tl σ H fun x H1 => ∃ a, x = .ref a ∧ (∃ xs, SqL K H1 a xs) ∧ LcGo (Itl K a) g tt te vs σ H1 Q) : tLc (fun σ H R => iList K tl σ H R ∨ iTup K tl σ H R) g tt te vs σ H Q := .inl q
theorem g_lcO2 {g : TG} {tl : TE} (q : tl σ H fun x H1 => ∃ a, x = .ref a ∧ (∃ xs, SqT K H1 a xs) ∧ LcGo (Itt K a) g tt te vs σ H1 Q) : tLc (fun σ H R => iList K tl σ H R ∨ iTup K tl σ H R) g tt te vs σ H Q := .inr q
/-- .. with a test -/
theorem lcgo_listF {a : Addr} {xs : List V} {j : Nat} (Pv : Addr → Nat → Hp → Prop) (hw : ∀ x, wipe ((wipe σ vs).set j (some x)) vs = wipe σ vs)
    (h0 : ∀ D, H1 D = none → Pv D 0 (upd H1 D (.lst []))) (hl : ∀ D i H, i ≤ xs.length → Pv D i H → SqL K H a xs)
    (hs : ∀ D i x H, H1 D = none → xs[i]? = some x → Pv D i H → tt ((wipe σ vs).set j (some x)) H fun b H3 => if b = true then te ((wipe σ vs).set j (some x)) H3 fun y H4 => ∃ acc, H4 D = some (.lst acc) ∧ acc.length < sizeLine ∧ Pv D (i + 1) (upd H4 D (.lst (acc ++ [y]))) else Pv D (i + 1) H3)
    (hd : ∀ D H, H1 D = none → Pv D xs.length H → Q (.ref D) H) : LcGo (Itl K a) (gName j) tt te vs σ H1 Q :=
  fun D hD => lc_list (xs := xs) (Pv D) (h0 D hD) (hl D) (fun i x H e p => ⟨hw x, hs D i x H hD e p⟩) (fun H p => hd D H hD p)
theorem lcgo_tupF {a : Addr} {xs : List V} {j : Nat} (Pv : Addr → Nat → Hp → Prop) (hw : ∀ x, wipe ((wipe σ vs).set j (some x)) vs = wipe σ vs)
    (h0 : ∀ D, H1 D = none → Pv D 0 (upd H1 D (.lst []))) (hl : ∀ D i H, i ≤ xs.length → Pv D i H → SqT K H a xs)
    (hs : ∀ D i x H, H1 D = none → xs[i]? = some x → Pv D i H → tt ((wipe σ vs).set j (some x)) H fun b H3 => if b = true then te ((wipe σ vs).set j (some x)) H3 fun y H4 => ∃ acc, H4 D = some (.lst acc) ∧ acc.length < sizeLine ∧ Pv D (i + 1) (upd H4 D (.lst (acc ++ [y]))) else Pv D (i + 1) H3)
    (hd : ∀ D H, H1 D = none → Pv D xs.length H → Q (.ref D) H) : LcGo (Itt K a) (gName j) tt te vs σ H1 Q :=
  fun D hD => lc_tup (xs := xs) (Pv D) (h0 D hD) (hl D) (fun i x H e p => ⟨hw x, hs D i x H hD e p⟩) (fun H p => hd D H hD p)
end
end Mf
namespace Mf
open PySem PySem.Spec PyProof.Rows L2
/-! ### fractions: the mathematics -/
theorem red_num (u d : Int) (h : 1 ≤ d) : u / ((Nat.gcd u.natAbs d.natAbs : Nat) : Int) = (Rat.divInt u d).num := by
  rw [Rat.num_divInt, Int.sign_eq_one_of_pos (by omega), Int.one_mul]
  show _ = u / ((Nat.gcd d.natAbs u.natAbs : Nat) : Int)
  rw [Nat.gcd_comm]
theorem red_den (u d : Int) (h : 1 ≤ d) : d / ((Nat.gcd u.natAbs d.natAbs : Nat) : Int) = ((Rat.divInt u d).den : Int) := by
  rw [Rat.den_divInt, if_neg (by omega)]
  show _ = ((d.natAbs / Nat.gcd d.natAbs u.natAbs : Nat) : Int)
  rw [Nat.gcd_comm, Int.natCast_ediv, Int.natAbs_of_nonneg (by omega : 0 ≤ d)]
theorem num_le (u d : Int) (h : 1 ≤ d) : (Rat.divInt u d).num.natAbs ≤ u.natAbs := by
  rw [← red_num u d h]
  exact Int.natAbs_ediv_le_natAbs _ _
theorem den_le (u d : Int) (h : 1 ≤ d) : (Rat.divInt u d).den ≤ d.natAbs := by
  rw [Rat.den_divInt, if_neg (by omega)]
  exact Nat.div_le_self _ _
/-- x is below 2 ^ n -/
def Bt (n : Nat) (x : Int) : Prop := x.natAbs < 2 ^ n
theorem Bt.mono {m n : Nat} {x : Int} (h : Bt m x) (l : m ≤ n) : Bt n x := Nat.lt_of_lt_of_le h (Nat.pow_le_pow_right (by decide) l)
theorem Bt.mul {m n : Nat} {x y : Int} (h1 : Bt m x) (h2 : Bt n y) : Bt (m + n) (x * y) := by
  unfold Bt at *
  rw [Int.natAbs_mul, Nat.pow_add]
  exact Nat.mul_lt_mul'' h1 h2
theorem Bt.add {m : Nat} {x y : Int} (h1 : Bt m x) (h2 : Bt m y) : Bt (m + 1) (x + y) := by
  unfold Bt at *
  have := Int.natAbs_add_le x y
  rw [Nat.pow_succ]
  omega
theorem Bt.neg {m : Nat} {x : Int} (h : Bt m x) : Bt m (-x) := by
  unfold Bt at *
  rw [Int.natAbs_neg]
  exact h
theorem Bt.sub {m : Nat} {x y : Int} (h1 : Bt m x) (h2 : Bt m y) : Bt (m + 1) (x - y) := by
  rw [Int.sub_eq_add_neg]
  exact h1.add h2.neg
theorem Bt.log {n : Nat} {x : Int} (h : Bt n x) (l : n ≤ 8999) : x.natAbs.log2 < 9000 :=
  Nat.lt_of_le_of_lt (Nat.le_of_lt_succ (Nat.lt_of_lt_of_le (PySem.Flt.log2_lt_of (Nat.succ_pos _) (Nat.lt_of_lt_of_le h (Nat.pow_le_pow_right (by decide) l))) (Nat.le_refl _))) (by decide)
theorem Bt.show {n : Nat} {x : Int} (h : Bt n x) (l : n ≤ 1900) : x.natAbs.log2 < 1920 :=
  Nat.lt_of_lt_of_le (PySem.Flt.log2_lt_of (by decide : 0 < 1900) (Nat.lt_of_lt_of_le h (Nat.pow_le_pow_right (by decide) l))) (by decide)
theorem Bt.cm {m n : Nat} {x y : Int} (h1 : Bt m x) (h2 : Bt n y) (l : m + n ≤ 900000) : CMulU x y := by
  refine .inr (wide_mul (a := m + 1) (b := n + 1) ?_ ?_ (by omega) (by omega) (by omega))
  · exact Nat.lt_of_lt_of_le h1 (Nat.pow_le_pow_right (by decide) (by omega))
  · exact Nat.lt_of_lt_of_le h2 (Nat.pow_le_pow_right (by decide) (by omega))
/-- .. of a fraction -/
def Rb (n : Nat) (r : Rat) : Prop := Bt n r.num ∧ Bt n (r.den : Int)
theorem Rb.mono {m n : Nat} {r : Rat} (h : Rb m r) (l : m ≤ n) : Rb n r := ⟨h.1.mono l, h.2.mono l⟩
theorem Rb.of {n : Nat} {u d : Int} (hd : 1 ≤ d) (h1 : Bt n u) (h2 : Bt n d) : Rb n (Rat.divInt u d) := by
  refine ⟨Nat.lt_of_le_of_lt (num_le u d hd) h1, ?_⟩
  show ((Rat.divInt u d).den : Int).natAbs < _
  rw [Int.natAbs_natCast]
  exact Nat.lt_of_le_of_lt (den_le u d hd) h2
theorem den1 (r : Rat) : 1 ≤ (r.den : Int) := by
  have := r.den_pos
  omega
theorem add_div (r s : Rat) : Rat.divInt (r.num * s.den + s.num * r.den) (r.den * s.den) = r + s := by
  rw [Rat.add_def', ← Rat.divInt_ofNat, Int.natCast_mul]
theorem sub_div (r s : Rat) : Rat.divInt (r.num * s.den - s.num * r.den) (r.den * s.den) = r - s := by
  rw [Rat.sub_def', ← Rat.divInt_ofNat, Int.natCast_mul]
theorem mul_div (r s : Rat) : Rat.divInt (r.num * s.num) (r.den * s.den) = r * s := by
  rw [Rat.mul_def', ← Rat.divInt_ofNat, Int.natCast_mul]
theorem div_div (r s : Rat) : Rat.divInt (r.num * s.den) (s.num * r.den) = r / s := by
  have e : r / s = Rat.divInt r.num r.den * Rat.divInt s.den s.num := by
    rw [Rat.div_def, Rat.inv_def, Rat.num_divInt_den]
  rw [e, Rat.divInt_mul_divInt, Int.mul_comm (r.den : Int) s.num]
theorem div_neg (r s : Rat) : Rat.divInt (-r.num * s.den) (-s.num * r.den) = r / s := by
  rw [Int.neg_mul, Int.neg_mul, Rat.neg_divInt_neg, div_div]
theorem Rb.add {m n : Nat} {r s : Rat} (h : Rb m r) (k : Rb n s) : Rb (m + n + 1) (r + s) := by
  rw [← add_div]
  exact Rb.of (by have := den1 r; have := den1 s; exact Int.le_trans (by decide) (Int.mul_le_mul (show 1 ≤ (r.den : Int) from den1 r) (den1 s) (by decide) (by omega))) ((h.1.mul k.2).add ((k.1.mul h.2).mono (by omega))) ((h.2.mul k.2).mono (by omega))
theorem dd1 (r s : Rat) : 1 ≤ (r.den : Int) * s.den := Int.le_trans (by decide) (Int.mul_le_mul (den1 r) (den1 s) (by decide) (by have := den1 r; omega))
theorem Rb.sub {m n : Nat} {r s : Rat} (h : Rb m r) (k : Rb n s) : Rb (m + n + 1) (r - s) := by
  rw [← sub_div]
  exact Rb.of (dd1 r s) ((h.1.mul k.2).sub ((k.1.mul h.2).mono (by omega))) ((h.2.mul k.2).mono (by omega))
theorem Rb.mul {m n : Nat} {r s : Rat} (h : Rb m r) (k : Rb n s) : Rb (m + n) (r * s) := by
  rw [← mul_div]
  exact Rb.of (dd1 r s) (h.1.mul k.1) (h.2.mul k.2)
theorem Rb.div {m n : Nat} {r s : Rat} (h : Rb m r) (k : Rb n s) (hs : s ≠ 0) : Rb (m + n) (r / s) := by
  have hn : s.num ≠ 0 := fun e => hs (Rat.num_eq_zero.mp e)
  have d1 := den1 r
  by_cases hp : 0 < s.num
  · rw [← div_div]
    exact Rb.of (Int.le_trans (by decide) (Int.mul_le_mul (show 1 ≤ s.num by omega) d1 (by decide) (by omega))) (h.1.mul k.2) ((k.1.mul h.2).mono (by omega))
  · rw [← div_neg]
    exact Rb.of (Int.le_trans (by decide) (Int.mul_le_mul (show 1 ≤ -s.num by omega) d1 (by decide) (by omega))) (h.1.neg.mul k.2) ((k.1.neg.mul h.2).mono (by omega))

/-! ### fractions as values -/
def upD : PyData → Int
  | .int i => i
  | .list [a, _] | .tuple [a, _] => valD a
  | _ => 0
def dnD : PyData → Int
  | .list [_, b] | .tuple [_, b] => valD b
  | _ => 1
def valQ (d : PyData) : Rat := Rat.divInt (upD d) (dnD d)
/-- the reduced tuple -/
abbrev rv (r : Rat) : List V := [.int r.num, .int (r.den : Int)]
def rd (r : Rat) : PyData := .tuple [.int r.num, .int (r.den : Int)]
/-- v tells the fraction r, numbers below 2 ^ n -/
def Fr (q : Addr) (K : PySem.W.Frag) (H : Hp) (v : V) (r : Rat) (n : Nat) : Prop := ∃ d, Dq q K H v d ∧ isFrD d = true ∧ valQ d = r ∧ Bt n (upD d) ∧ Bt n (dnD d) ∧ 1 ≤ dnD d
theorem Fr.go {q : Addr} {K : PySem.W.Frag} {H H' : Hp} {v : V} {r : Rat} {n : Nat} (s : SameX q H H') (h : Fr q K H v r n) : Fr q K H' v r n := by
  obtain ⟨d, h1, h2⟩ := h
  exact ⟨d, h1.go s, h2⟩
theorem Fr.rb {q : Addr} {K : PySem.W.Frag} {H : Hp} {v : V} {r : Rat} {n : Nat} (h : Fr q K H v r n) : Rb n r := by
  obtain ⟨d, h1, h2, rfl, h4, h5, h6⟩ := h
  exact Rb.of h6 h4 h5
theorem Fr.mono {q : Addr} {K : PySem.W.Frag} {H : Hp} {v : V} {r : Rat} {m n : Nat} (h : Fr q K H v r m) (l : m ≤ n) : Fr q K H v r n := by
  obtain ⟨d, h1, h2, h3, h4, h5, h6⟩ := h
  exact ⟨d, h1, h2, h3, h4.mono l, h5.mono l, h6⟩
theorem rd_fr (r : Rat) : isFrD (rd r) = true := by
  show (true && decide (1 ≤ (r.den : Int))) = true
  rw [Bool.true_and]
  exact decide_eq_true (den1 r)
theorem rd_val (r : Rat) : valQ (rd r) = r := Rat.num_divInt_den r
theorem Fr.tup {q : Addr} {K : PySem.W.Frag} {H : Hp} {p : Addr} {r : Rat} {n : Nat} (h : SqT K H p (rv r)) (np : p ≠ q) (b : Rb n r) : Fr q K H (.ref p) r n :=
  ⟨rd r, .tup np h (.cons (.int _) (.cons (.int _) .nil)), rd_fr r, rd_val r, b.1, b.2, den1 r⟩
theorem Fr.int {q : Addr} {K : PySem.W.Frag} {H : Hp} {i : Int} {n : Nat} (b : Bt n i) (hn : 1 ≤ n) : Fr q K H (.int i) (Rat.divInt i 1) n :=
  ⟨.int i, .int i, rfl, rfl, b, Bt.mono (m := 1) (by show 1 < 2 ^ 1; decide) hn, by show (1 : Int) ≤ 1; omega⟩
/-- a new tuple tells it -/
def RetT (r : Rat) (H : Hp) (Q : VK) : Prop := ∀ p H', Same H H' → H p = none → H' p = some (.tup (rv r)) → Q (.ref p) H'
theorem RetT.same {r : Rat} {H H1 : Hp} {Q : VK} (k : RetT r H Q) (s : Same H H1) : RetT r H1 Q := fun p H' s' n e => k p H' (s.trans s') (s.free n) e
section
variable {K : PySem.W.Frag} {σ : L2.St} {H : Hp} {Q : VK}
theorem pg_or {X : Cx} {tg : Expr} {t1 t2 : TG} (h1 : PG X tg t1) (h2 : PG X tg t2) : PG X tg (fun v σ H Q => t1 v σ H Q ∨ t2 v σ H Q) := by
  refine ⟨fun pins s σ H v u Q I r h => ?_⟩
  cases h with
  | inl h => exact h1.run pins s σ H v u Q I r h
  | inr h => exact h2.run pins s σ H v u Q I r h
theorem g_tupG {a : Addr} {xs : List V} {n : Nat} {t : TGs} {R : L2.St → Hp → Prop} (h : SqT K H a xs) (hl : xs.length = n) (q : t xs σ H R) : gTup K n t (.ref a) σ H R := ⟨a, xs, rfl, h, hl, q⟩
theorem g_unl {a : Addr} {xs : List V} {n : Nat} {t : TGs} {R : L2.St → Hp → Prop} (h : SqL K H a xs) (hl : xs.length = n) (q : t xs σ H R) : gUnl K n t (.ref a) σ H R := ⟨a, xs, rfl, h, hl, q⟩
theorem g_consG {v : V} {vr : List V} {t : TG} {u : TGs} {R : L2.St → Hp → Prop} (q : t v σ H fun σ' H' => u vr σ' H' R) : gCons t u (v :: vr) σ H R := ⟨v, vr, rfl, q⟩
theorem g_nilG {R : L2.St → Hp → Prop} (q : R σ H) : gNil [] σ H R := ⟨rfl, q⟩
theorem g_seqG {a : Addr} {xs : List V} {n : Nat} {t : TGs} {R : L2.St → Hp → Prop} (h : Sq K H a xs) (hl : xs.length = n) (q : t xs σ H R) : (fun v σ H Q => gTup K n t v σ H Q ∨ gUnl K n t v σ H Q : TG) (.ref a) σ H R := by
  rcases h with h | h
  · exact .inr ⟨a, xs, rfl, h, hl, q⟩
  · exact .inl ⟨a, xs, rfl, h, hl, q⟩
theorem g_gcd {a b : Int} (q : Q (.int ((Nat.gcd a.natAbs b.natAbs : Nat) : Int)) H) : rGcd [.int a, .int b] H Q := ⟨a, b, rfl, q⟩
theorem g_mulU {i j : Int} (c : CMulU i j) (q : Q (.int (i * j)) H) : rMulU (.int i) (.int j) H Q := .inl ⟨i, j, rfl, rfl, c, q⟩
/-- reading a value: an int, or two ints -/
theorem posD_int {d : PyData} (h : posD d = true) : isIntD d = true ∧ 1 ≤ valD d := by
  cases d with
  | int i => exact ⟨rfl, of_decide_eq_true h⟩
  | _ => cases h
theorem Fr.cases {q : Addr} {v : V} {r : Rat} {n : Nat} (h : Fr q K H v r n) : (∃ i : Int, v = .int i ∧ Dq q K H v (.int i) ∧ r = Rat.divInt i 1 ∧ Bt n i) ∨
    ∃ a d x y, v = .ref a ∧ a ≠ q ∧ Dq q K H v d ∧ isIntD d = false ∧ isFrD d = true ∧ Sq K H a [.int x, .int y] ∧ 1 ≤ y ∧ r = Rat.divInt x y ∧ Bt n x ∧ Bt n y := by
  obtain ⟨d, h1, h2, h3, h4, h5, h6⟩ := h
  by_cases e : isSeqD d = true
  · obtain ⟨a, xs, ds, rfl, na, hs, hall, ed⟩ := h1.seq e
    by_cases e2 : ds.length = 2
    · obtain ⟨x, y, da, db, rfl, rfl, hx, hy⟩ := two_of hall (by rw [hall.len]; exact e2)
      have e3 := h2
      rw [(frD_of ed).1, Bool.and_eq_true] at e3
      obtain ⟨p1, p2⟩ := posD_int e3.2
      obtain ⟨rfl, ea⟩ := hx.int_of e3.1
      obtain ⟨rfl, eb⟩ := hy.int_of p1
      have u1 : upD d = valD da := by rcases ed with rfl | rfl <;> rfl
      have u2 : dnD d = valD db := by rcases ed with rfl | rfl <;> rfl
      have u3 : isIntD d = false := by rcases ed with rfl | rfl <;> rfl
      rw [u1] at h4
      rw [u2] at h5
      refine .inr ⟨a, d, valD da, valD db, rfl, na, h1, u3, h2, hs, p2, ?_, h4, h5⟩
      rw [← h3]
      unfold valQ
      rw [u1, u2]
    · rw [(frD_two ed e2).1] at h2
      cases h2
  · cases h1 with
    | int i => exact .inl ⟨i, rfl, .int i, h3.symm, h4⟩
    | lst _ _ _ => exact absurd rfl e
    | tup _ _ _ => exact absurd rfl e
    | _ => cases h2
end
/-! ### the promises -/
def sp_reduced (K : PySem.W.Frag) : Sp := fun vs H Q _ => ∃ (u d : Int), vs = [.int u, .int d] ∧ 1 ≤ d ∧ Bt 8000 d ∧ RetT (Rat.divInt u d) H Q
def sp_read (K : PySem.W.Frag) : Sp := fun vs H Q _ => ∃ q v part r n, vs = [v, part] ∧ Fr q K H v r n ∧ n ≤ 8000 ∧ RetT r H Q
def sp_frof (K : PySem.W.Frag) : Sp := fun vs H Q _ => ∃ q v r n, vs = [v] ∧ Fr q K H v r n ∧ n ≤ 8000 ∧ RetT r H Q
def sp_bin (f : Rat → Rat → Rat) (K : PySem.W.Frag) : Sp := fun vs H Q _ => ∃ q v1 v2 r1 r2 m n, vs = [v1, v2] ∧ Fr q K H v1 r1 m ∧ Fr q K H v2 r2 n ∧ m + n ≤ 7000 ∧ RetT (f r1 r2) H Q
def sp_divd (K : PySem.W.Frag) : Sp := fun vs H Q _ => ∃ q v1 v2 r1 r2 m n, vs = [v1, v2] ∧ Fr q K H v1 r1 m ∧ Fr q K H v2 r2 n ∧ m + n ≤ 7000 ∧ r2 ≠ 0 ∧ RetT (r1 / r2) H Q
end Mf
namespace Mf
open PySem PySem.Spec PyProof.Rows L2
/-! ### what the laws draw, and how they look -/
/-- numbers that can be shown -/
def Shw (d : PyData) : Prop := d.showable = true ∧ d.leavesShort 1921 = true
theorem shw_int {i : Int} {n : Nat} (b : Bt n i) (l : n ≤ 1900) : Shw (.int i) := by
  have h := b.show l
  refine ⟨decide_eq_true h, ?_⟩
  show decide ((PyData.shown (.int i)).length ≤ 1921) = true
  exact decide_eq_true (int_text_len_1921 h)
theorem int_w {i : Int} {n : Nat} (b : Bt n i) (l : n ≤ 1900) : (PyData.int i).weight ≤ 1921 := by
  have h := b.show l
  show (if (i == 0) = true then 0 else i.natAbs.log2 + 1) ≤ 1921
  split <;> omega
theorem shw_tup2 {a b : PyData} (h1 : Shw a) (h2 : Shw b) : Shw (.tuple [a, b]) := by
  constructor
  · show (a.showable && (b.showable && true)) = true
    rw [h1.1, h2.1] <;> rfl
  · show (a.leavesShort 1921 && (b.leavesShort 1921 && true)) = true
    rw [h1.2, h2.2] <;> rfl
theorem shw_lst2 {a b : PyData} (h1 : Shw a) (h2 : Shw b) : Shw (.list [a, b]) := by
  constructor
  · show (a.showable && (b.showable && true)) = true
    rw [h1.1, h2.1] <;> rfl
  · show (a.leavesShort 1921 && (b.leavesShort 1921 && true)) = true
    rw [h1.2, h2.2] <;> rfl
theorem Shw.len {d : PyData} (h : Shw d) (w : d.weight ≤ 8000) : d.shown.length ≤ sizeLine := by
  have := PyData.shown_le 1921 (by decide) d h.2
  have e : sizeLine = 16777216 := sizeLine_eq
  have : (1921 + 2) * d.weight ≤ (1921 + 2) * 8000 := Nat.mul_le_mul_left _ w
  omega
/-- what a fraction's data is -/
theorem fr_shape {d : PyData} (h : isFrD d = true) : (∃ i, d = .int i) ∨ ∃ x y, 1 ≤ y ∧ (d = .list [.int x, .int y] ∨ d = .tuple [.int x, .int y]) := by
  have two : ∀ a b : PyData, (isIntD a && posD b) = true → ∃ x y, 1 ≤ y ∧ a = .int x ∧ b = .int y := by
    intro a b e
    rw [Bool.and_eq_true] at e
    obtain ⟨p1, p2⟩ := posD_int e.2
    cases a with
    | int x => cases b with
      | int y => exact ⟨x, y, p2, rfl, rfl⟩
      | _ => cases p1
    | _ => cases e.1
  cases d with
  | int i => exact .inl ⟨i, rfl⟩
  | list ds =>
    match ds, h with
    | [a, b], h =>
      obtain ⟨x, y, h1, rfl, rfl⟩ := two a b h
      exact .inr ⟨x, y, h1, .inl rfl⟩
    | [], h => cases h
    | [_], h => cases h
    | _ :: _ :: _ :: _, h => cases h
  | tuple ds =>
    match ds, h with
    | [a, b], h =>
      obtain ⟨x, y, h1, rfl, rfl⟩ := two a b h
      exact .inr ⟨x, y, h1, .inr rfl⟩
    | [], h => cases h
    | [_], h => cases h
    | _ :: _ :: _ :: _, h => cases h
  | _ => cases h
theorem fr_dn {d : PyData} (h : isFrD d = true) : 1 ≤ dnD d := by
  rcases fr_shape h with ⟨i, rfl⟩ | ⟨x, y, hy, rfl | rfl⟩
  · show (1 : Int) ≤ 1; omega
  · exact hy
  · exact hy
theorem fr_shw {d : PyData} {n : Nat} (h : isFrD d = true) (b1 : Bt n (upD d)) (b2 : Bt n (dnD d)) (l : n ≤ 1900) : Shw d ∧ d.weight ≤ 3850 ∧ d.depth ≤ 5 ∧ noDct d = true ∧ d.hasDict = false ∧ d.canLay0 = true := by
  rcases fr_shape h with ⟨i, rfl⟩ | ⟨x, y, hy, rfl | rfl⟩
  · exact ⟨shw_int b1 l, Nat.le_trans (int_w b1 l) (by decide), by simp [PyData.depth], rfl, rfl, rfl⟩
  · exact ⟨shw_lst2 (shw_int b1 l) (shw_int b2 l), by have := int_w b1 l; have := int_w b2 l; simp only [upD, dnD, valD] at *; rw [PyData.weight]; simp only [PyData.weightAll]; omega, by simp [PyData.depth, PyData.depthAll], rfl, rfl, rfl⟩
  · exact ⟨shw_tup2 (shw_int b1 l) (shw_int b2 l), by have := int_w b1 l; have := int_w b2 l; simp only [upD, dnD, valD] at *; rw [PyData.weight]; simp only [PyData.weightAll]; omega, by simp [PyData.depth, PyData.depthAll], rfl, rfl, rfl⟩
section
variable {q : Addr} {K : PySem.W.Frag} {σ : L2.St} {H : Hp} {Q : VK}
theorem Fr.of {v : V} {d : PyData} {n : Nat} (h : Dq q K H v d) (f : isFrD d = true) (b1 : Bt n (upD d)) (b2 : Bt n (dnD d)) : Fr q K H v (valQ d) n := ⟨d, h, f, rfl, b1, b2, fr_dn f⟩
theorem cut_tt {t : TT} {R : Bool → Hp → Prop} {b : Bool} (h1 : ∀ R' : Bool → Hp → Prop, (∀ H', Same H H' → R' b H') → t σ H R') (h2 : ∀ H', Same H H' → R b H') : t σ H R := h1 R h2
/-- two tuples of one fraction -/
theorem g_neFF {p1 p2 : Addr} {r : Rat} (e1 : SqT K H p1 (rv r)) (e2 : SqT K H p2 (rv r)) (k : Q (.bl false) H) : rNeU K (.ref p1) (.ref p2) H Q := by
  refine .inr ⟨rd r, rd r, .tup e1 (.cons (.int _) (.cons (.int _) .nil)), .tup e2 (.cons (.int _) (.cons (.int _) .nil)), by rfl, by rfl, ?_⟩
  rw [SeqAt.eqv_refl (rd r) (by rfl)]
  exact k
/-- the text of a pair of ints, of two fractions -/
theorem g_reprT {p : Addr} {x y : Int} {n : Nat} (e : SqT K H p [.int x, .int y]) (bx : Bt n x) (by_ : Bt n y) (l : n ≤ 1900) (k : Q (.str (PyData.tuple [.int x, .int y]).shown) H) : rReprU K [.ref p] H Q :=
  g_repr (.tup e (.cons (.int _) (.cons (.int _) .nil))) (shw_tup2 (shw_int bx l) (shw_int by_ l)).1 rfl (by simp [PyData.depth, PyData.depthAll]) ((shw_tup2 (shw_int bx l) (shw_int by_ l)).len (by have := int_w bx l; have := int_w by_ l; rw [PyData.weight]; simp only [PyData.weightAll]; omega)) k
theorem g_reprFF {p : Addr} {v1 v2 : V} {d1 d2 : PyData} {n : Nat} (e : SqL K H p [v1, v2]) (h1 : Dq q K H v1 d1) (h2 : Dq q K H v2 d2) (f1 : isFrD d1 = true) (f2 : isFrD d2 = true)
    (b1 : Bt n (upD d1)) (b2 : Bt n (dnD d1)) (b3 : Bt n (upD d2)) (b4 : Bt n (dnD d2)) (l : n ≤ 1900) (k : Q (.str (PyData.list [d1, d2]).shown) H) : rReprU K [.ref p] H Q := by
  obtain ⟨s1, w1, e1, n1, g1, _⟩ := fr_shw f1 b1 b2 l
  obtain ⟨s2, w2, e2, n2, g2, _⟩ := fr_shw f2 b3 b4 l
  refine g_repr (.lst e (.cons (h1.dp n1) (.cons (h2.dp n2) .nil))) (shw_lst2 s1 s2).1 ?_ ?_ ((shw_lst2 s1 s2).len ?_) k
  · show (d1.hasDict || (d2.hasDict || false)) = false
    rw [g1, g2] <;> rfl
  · simp only [PyData.depth, PyData.depthAll]
    omega
  · rw [PyData.weight]
    simp only [PyData.weightAll]
    omega
end
theorem cross {r : Rat} {U D : Int} (hD : 1 ≤ D) (e : r = Rat.divInt U D) : r.num * D = U * r.den := by
  have h : Rat.divInt r.num r.den = Rat.divInt U D := by rw [Rat.num_divInt_den]; exact e
  exact (Rat.divInt_eq_divInt_iff (by have := den1 r; omega) (by omega)).mp h
theorem div_cross {a b c d : Int} : Rat.divInt a b / Rat.divInt c d = Rat.divInt (a * d * (if 0 < c then 1 else -1)) ((if c < 0 then -c else c) * b) ∨ c = 0 := by
  by_cases hc : c = 0
  · exact .inr hc
  · refine .inl ?_
    rw [Rat.div_def, Rat.inv_divInt, Rat.divInt_mul_divInt]
    by_cases h : 0 < c
    · rw [if_pos h, if_neg (by omega), Int.mul_one, Int.mul_comm b c]
    · rw [if_neg h, if_pos (by omega), Int.mul_neg, Int.mul_one, Int.neg_mul, Rat.neg_divInt_neg, Int.mul_comm b c]
theorem valQ_ne {d : PyData} (h : isFrD d = true) (hc : upD d ≠ 0) : valQ d ≠ 0 := by
  intro e
  have h1 := fr_dn h
  have e2 : Rat.divInt (upD d) (dnD d) = Rat.divInt 0 1 := by
    rw [Rat.zero_divInt]
    exact e
  have := (Rat.divInt_eq_divInt_iff (by omega) (by decide)).mp e2
  omega
theorem coprime_r (r : Rat) : Nat.gcd r.num.natAbs ((r.den : Int)).natAbs = 1 := by
  rw [Int.natAbs_natCast]
  exact r.reduced
/-- a drawn fraction; a pair; the law's own look at a fraction -/
def sp_lfrac (K : PySem.W.Frag) : Sp := fun vs H Q _ => ∃ (q : Addr) (t m : Int), vs = [.ref q, .int m] ∧ Qy K q t H ∧ t ≤ 999990 ∧ 1 ≤ m ∧ m ≤ 10000000000000000000000000000000000000000 ∧
  ∀ t' H' v d, SameX q H H' → Qy K q t' H' → t ≤ t' → t' ≤ t + 4 → Dq q K H' v d → isFrD d = true → Bt 140 (upD d) → Bt 140 (dnD d) → Q v H'
def sp_lpair (K : PySem.W.Frag) : Sp := fun vs H Q _ => ∃ (q : Addr) (v : V) (d : PyData), vs = [v] ∧ Dq q K H v d ∧ isFrD d = true ∧
  ∀ p H', Same H H' → H p = none → H' p = some (.tup [.int (upD d), .int (dnD d)]) → Q (.ref p) H'
def sp_lis (K : PySem.W.Frag) : Sp := fun vs H Q _ => ∃ (p : Addr) (U D : Int) (r : Rat) (n : Nat), vs = [.ref p, .int U, .int D] ∧ SqT K H p (rv r) ∧ 1 ≤ D ∧ r = Rat.divInt U D ∧ Rb n r ∧ Bt n U ∧ Bt n D ∧ n ≤ 1900 ∧ ∀ H', Same H H' → Q (.bl true) H'
theorem fr_pair {x y : Int} {n : Nat} (hy : 1 ≤ y) (bx : Bt n x) (b : Bt n y) : (isFrD (.tuple [.int x, .int y]) = true ∧ Bt n (upD (.tuple [.int x, .int y])) ∧ Bt n (dnD (.tuple [.int x, .int y]))) ∧
    (isFrD (.list [.int x, .int y]) = true ∧ Bt n (upD (.list [.int x, .int y])) ∧ Bt n (dnD (.list [.int x, .int y]))) := by
  have e : (true && decide (1 ≤ y)) = true := by rw [Bool.true_and]; exact decide_eq_true hy
  exact ⟨⟨e, bx, b⟩, ⟨e, bx, b⟩⟩
end Mf
namespace Mf
open PySem PySem.Spec PyProof.Rows L2
/-! ### drawn fractions by their addresses -/
/-- v tells x / y; where it is an object, its address is not among ex -/
def Fz (ex : Addr → Prop) (H : Hp) (v : V) (x y : Int) : Prop := (v = .int x ∧ y = 1) ∨ ∃ a, v = .ref a ∧ ¬ ex a ∧ (H a = some (.tup [.int x, .int y]) ∨ H a = some (.lst [.int x, .int y]))
theorem Fz.go {ex ex' : Addr → Prop} {H H' : Hp} {v : V} {x y : Int} (h : Fz ex H v x y) (s : ∀ b o, ¬ ex b → H b = some o → H' b = some o ∧ ¬ ex' b) : Fz ex' H' v x y := by
  rcases h with h | ⟨a, rfl, n, e⟩
  · exact .inl h
  · refine .inr ⟨a, rfl, ?_, ?_⟩
    · rcases e with e | e
      · exact (s _ _ n e).2
      · exact (s _ _ n e).2
    · rcases e with e | e
      · exact .inl (s _ _ n e).1
      · exact .inr (s _ _ n e).1
/-- the data -/
theorem Fz.dq {ex : Addr → Prop} {H : Hp} {v : V} {x y : Int} {q : Addr} {K : PySem.W.Frag} {n : Nat} (h : Fz ex H v x y) (hq : ex q) (hy : 1 ≤ y) (bx : Bt n x) (b : Bt n y) :
    ∃ d, Dq q K H v d ∧ isFrD d = true ∧ upD d = x ∧ dnD d = y := by
  rcases h with ⟨rfl, rfl⟩ | ⟨a, rfl, na, e | e⟩
  · exact ⟨.int x, .int x, rfl, rfl, rfl⟩
  · have na' : a ≠ q := fun z => na (z ▸ hq)
    exact ⟨.tuple [.int x, .int y], .tup na' (tupU e) (.cons (.int _) (.cons (.int _) .nil)), (fr_pair hy bx b).1.1, rfl, rfl⟩
  · have na' : a ≠ q := fun z => na (z ▸ hq)
    exact ⟨.list [.int x, .int y], .lst na' (seqU e) (.cons (.int _) (.cons (.int _) .nil)), (fr_pair hy bx b).2.1, rfl, rfl⟩
def sp_lfz (K : PySem.W.Frag) : Sp := fun vs H Q _ => ∃ (q : Addr) (t m : Int), vs = [.ref q, .int m] ∧ Qy K q t H ∧ t ≤ 999990 ∧ 1 ≤ m ∧ m ≤ 10000000000000000000000000000000000000000 ∧
  ∀ t' H' v x y, SameX q H H' → Qy K q t' H' → t ≤ t' → t' ≤ t + 4 → Fz (fun a => H a ≠ none) H' v x y → 1 ≤ y → Bt 140 x → Bt 140 y → Q v H'
/-- several -/
structure Fq where
  x : Int
  y : Int
  pos : 1 ≤ y
  bx : Bt 140 x
  by_ : Bt 140 y
inductive FzAll (ex : Addr → Prop) (H : Hp) : List V → List Fq → Prop
  | nil : FzAll ex H [] []
  | cons {v : V} {vs : List V} {f : Fq} {fs : List Fq} : Fz ex H v f.x f.y → FzAll ex H vs fs → FzAll ex H (v :: vs) (f :: fs)
theorem FzAll.go {ex ex' : Addr → Prop} {H H' : Hp} (s : ∀ b o, ¬ ex b → H b = some o → H' b = some o ∧ ¬ ex' b) : ∀ {vs : List V} {fs : List Fq}, FzAll ex H vs fs → FzAll ex' H' vs fs
  | _, _, .nil => .nil
  | _, _, .cons h t => .cons (h.go s) (FzAll.go s t)
theorem FzAll.app {ex : Addr → Prop} {H : Hp} {v : V} {f : Fq} (h : Fz ex H v f.x f.y) : ∀ {vs : List V} {fs : List Fq}, FzAll ex H vs fs → FzAll ex H (vs ++ [v]) (fs ++ [f])
  | _, _, .nil => .cons h .nil
  | _, _, .cons g t => .cons g (FzAll.app h t)
theorem FzAll.len {ex : Addr → Prop} {H : Hp} : ∀ {vs : List V} {fs : List Fq}, FzAll ex H vs fs → vs.length = fs.length
  | _, _, .nil => rfl
  | _, _, .cons _ t => congrArg Nat.succ (FzAll.len t)
def Fq.q (f : Fq) : Rat := Rat.divInt f.x f.y
theorem FzAll.dq {ex : Addr → Prop} {H : Hp} {q : Addr} {K : PySem.W.Frag} (hq : ex q) : ∀ {vs : List V} {fs : List Fq}, FzAll ex H vs fs →
    ∃ ds, DqAll q K H vs ds ∧ (∀ d ∈ ds, isFrD d = true ∧ Bt 140 (upD d) ∧ Bt 140 (dnD d)) ∧ ds.map valQ = fs.map Fq.q
  | _, _, .nil => ⟨[], .nil, fun _ h => absurd h List.not_mem_nil, rfl⟩
  | _, _, .cons (f := f) h t => by
    obtain ⟨ds, h1, h2, h3⟩ := FzAll.dq (K := K) hq t
    obtain ⟨d, k1, k2, k3, k4⟩ := h.dq (K := K) hq f.pos f.bx f.by_
    refine ⟨d :: ds, .cons k1 h1, ?_, ?_⟩
    · intro e he
      rcases List.mem_cons.mp he with rfl | he
      · exact ⟨k2, by rw [k3]; exact f.bx, by rw [k4]; exact f.by_⟩
      · exact h2 e he
    · rw [List.map_cons, List.map_cons, h3]
      show valQ d :: _ = f.q :: _
      unfold valQ Fq.q
      rw [k3, k4]
/-! ### sums -/
def sumQ (rs : List Rat) : Rat := rs.foldl (· + ·) 0
theorem sumQ_snoc (rs : List Rat) (r : Rat) : sumQ (rs ++ [r]) = sumQ rs + r := by
  unfold sumQ
  rw [List.foldl_append]
  rfl
theorem Rb_fold : ∀ (rs : List Rat) (r0 : Rat) (m : Nat), Rb m r0 → (∀ r ∈ rs, Rb 140 r) → Rb (m + 141 * rs.length) (rs.foldl (· + ·) r0)
  | [], r0, m, h0, _ => h0
  | r :: rs, r0, m, h0, h => by
    have h1 := Rb_fold rs (r0 + r) (m + 140 + 1) (h0.add (h r List.mem_cons_self)) fun e he => h e (List.mem_cons_of_mem _ he)
    exact h1.mono (by rw [List.length_cons]; omega)
theorem Rb0 : Rb 1 0 := ⟨by show (0 : Int).natAbs < _; decide, by show ((1 : Nat) : Int).natAbs < _; decide⟩
theorem Rb_sum (rs : List Rat) (h : ∀ r ∈ rs, Rb 140 r) : Rb (1 + 141 * rs.length) (sumQ rs) := Rb_fold rs 0 1 Rb0 h
/-- the sum of a list or tuple of fractions -/
def sp_sum (K : PySem.W.Frag) : Sp := fun vs H Q _ => ∃ (q p : Addr) (xs : List V) (ds : List PyData), vs = [.ref p] ∧ H q ≠ none ∧ p ≠ q ∧ Sq K H p xs ∧ DqAll q K H xs ds ∧ (∀ d ∈ ds, isFrD d = true ∧ Bt 140 (upD d) ∧ Bt 140 (dnD d)) ∧ ds.length ≤ 9 ∧ RetT (sumQ (ds.map valQ)) H Q
def sp_mixd (K : PySem.W.Frag) : Sp := fun vs H Q _ => ∃ q v1 v2 v3 r1 r2 r3, vs = [v1, v2, v3] ∧ H q ≠ none ∧ Fr q K H v1 r1 500 ∧ Fr q K H v2 r2 500 ∧ Fr q K H v3 r3 500 ∧ RetT ((1 - r3) * r1 + r3 * r2) H Q
def sgn (n : Int) : Int := if n < 0 then -1 else if 0 < n then 1 else 0
def sp_sign (K : PySem.W.Frag) : Sp := fun vs H Q _ => ∃ q v r n, vs = [v] ∧ Fr q K H v r n ∧ n ≤ 8000 ∧ ∀ H', Same H H' → Q (.int (sgn r.num)) H'
theorem sgn_div {x y : Int} (hy : 1 ≤ y) : sgn (Rat.divInt x y).num = sgn x := by
  have h1 := cross hy rfl (r := Rat.divInt x y) (U := x)
  have h2 := den1 (Rat.divInt x y)
  generalize (Rat.divInt x y).num = n at *
  generalize ((Rat.divInt x y).den : Int) = d at *
  unfold sgn
  by_cases a : n < 0
  · have : n * y < 0 := Int.mul_neg_of_neg_of_pos a (by omega)
    have : x < 0 := by
      by_cases z : x < 0
      · exact z
      · have := Int.mul_nonneg (show 0 ≤ x by omega) (show 0 ≤ d by omega)
        omega
    rw [if_pos a, if_pos this]
  · rw [if_neg a]
    by_cases b : 0 < n
    · have : 0 < n * y := Int.mul_pos b (by omega)
      have : 0 < x := by
        by_cases z : 0 < x
        · exact z
        · have := Int.mul_nonneg (show 0 ≤ -x by omega) (show 0 ≤ d by omega)
          rw [Int.neg_mul] at this
          omega
      rw [if_pos b, if_neg (by omega), if_pos this]
    · have e : n = 0 := by omega
      rw [e, Int.zero_mul] at h1
      have : x = 0 := by
        rcases Int.mul_eq_zero.mp h1.symm with z | z
        · exact z
        · omega
      rw [if_neg b, this]
      decide
section
variable {K : PySem.W.Frag} {σ : L2.St} {H : Hp} {Q : VK}
/-- for over a list or a tuple that stands in a slot -/
theorem g_forS {i0 j : Nat} {a : Addr} {xs : List V} {tb : TS} {D : Ends} (e : σ[i0]? = some (some (.ref a))) (hs : Sq K H a xs) (Pv : Nat → L2.St → Hp → Prop) (h0 : Pv 0 σ H) (hx : ∀ i σ' H', Pv i σ' H' → Same H H')
    (hb : ∀ i x σ' H', xs[i]? = some x → Pv i σ' H' → tb ⟨Pv (i + 1), D.rt, D.nx, Pv (i + 1)⟩ (σ'.set j (some x)) H') (hd : ∀ σ' H', Pv xs.length σ' H' → D.nx σ' H') :
    tFor (fun σ H R => iList K (tVar i0) σ H R ∨ iTup K (tVar i0) σ H R) (gName j) tb D σ H := by
  rcases hs with hs | hs
  · exact .inl ⟨.ref a, e, a, rfl, ⟨xs, hs⟩, for_list (xs := xs) Pv h0 (fun i σ' H' _ p => (hx i σ' H' p).seq hs) (fun i x σ' H' ex p => hb i x σ' H' ex p) hd⟩
  · exact .inr ⟨.ref a, e, a, rfl, ⟨xs, hs⟩, for_tup (xs := xs) Pv h0 (fun i σ' H' _ p => (Same.x (q := a + 1) (hx i σ' H' p)).tup (Nat.ne_of_lt (Nat.lt_succ_self a)) hs) (fun i x σ' H' ex p => hb i x σ' H' ex p) hd⟩
theorem g_forL {i0 j : Nat} {a : Addr} {xs : List V} {tb : TS} {D : Ends} (e : σ[i0]? = some (some (.ref a))) (hs : SqL K H a xs) (Pv : Nat → L2.St → Hp → Prop) (h0 : Pv 0 σ H) (hx : ∀ i σ' H', Pv i σ' H' → Same H H')
    (hb : ∀ i x σ' H', xs[i]? = some x → Pv i σ' H' → tb ⟨Pv (i + 1), D.rt, D.nx, Pv (i + 1)⟩ (σ'.set j (some x)) H') (hd : ∀ σ' H', Pv xs.length σ' H' → D.nx σ' H') :
    tFor (iList K (tVar i0)) (gName j) tb D σ H :=
  ⟨.ref a, e, a, rfl, ⟨xs, hs⟩, for_list (xs := xs) Pv h0 (fun i σ' H' _ p => (hx i σ' H' p).seq hs) (fun i x σ' H' ex p => hb i x σ' H' ex p) hd⟩
theorem g_yes {R : Bool → Hp → Prop} (q : R true H) : tYes σ H R := q
theorem ne_trk {q p : Addr} (h : H q ≠ none) (e : H p = none) : p ≠ q := fun z => h (z ▸ e)
theorem Same.trk {H' : Hp} {q : Addr} (s : Same H H') (h : H q ≠ none) : H' q ≠ none := by
  cases e : H q with
  | none => exact absurd e h
  | some o =>
    rw [s _ _ e]
    exact Option.some_ne_none _
theorem fresh_x {q p : Addr} {Hz : Hp} (sx : SameX q H Hz) (hq : ∃ o, Hz q = some o) (h : Hz p = none) : ¬ (H p ≠ none) := by
  intro z
  obtain ⟨oq, hq⟩ := hq
  have npq : p ≠ q := by
    intro e
    rw [e, hq] at h
    cases h
  cases e : H p with
  | none => exact z e
  | some o =>
    rw [sx _ _ npq e] at h
    cases h
theorem DqAll.get {q : Addr} : ∀ {xs : List V} {ds : List PyData} {i : Nat} {x : V}, DqAll q K H xs ds → xs[i]? = some x → ∃ d, ds[i]? = some d ∧ Dq q K H x d
  | _, _, _, _, .nil, e => by simp at e
  | _, _, 0, x, .cons h _, e => by
    cases e
    exact ⟨_, rfl, h⟩
  | _, _, i + 1, x, .cons _ t, e => by
    obtain ⟨d, h1, h2⟩ := DqAll.get (i := i) (x := x) t (by simpa using e)
    exact ⟨d, by simpa using h1, h2⟩
theorem all_rep (n : Nat) : (List.replicate n true).all id = true := by
  induction n with
  | zero => rfl
  | succ n ih => rw [List.replicate_succ, List.all_cons, ih] <;> rfl
theorem take_snoc {α : Type} {l : List α} {i : Nat} {x : α} (h : l[i]? = some x) : l.take (i + 1) = l.take i ++ [x] := by
  rw [List.take_add_one, h]
  rfl
theorem mix_cross {A B C D E F : Int} (hB : 1 ≤ B) (hD : 1 ≤ D) (hF : 1 ≤ F) : (1 - Rat.divInt E F) * Rat.divInt A B + Rat.divInt E F * Rat.divInt C D = Rat.divInt ((F - E) * A * D + E * C * B) (F * B * D) := by
  have e1 : (1 : Rat) = Rat.divInt F F := (Rat.divInt_self' (by omega)).symm
  have n1 : F * F * B ≠ 0 := Int.mul_ne_zero (Int.mul_ne_zero (by omega) (by omega)) (by omega)
  have n2 : F * D ≠ 0 := Int.mul_ne_zero (by omega) (by omega)
  have n3 : F * B * D ≠ 0 := Int.mul_ne_zero (Int.mul_ne_zero (by omega) (by omega)) (by omega)
  rw [e1, Rat.divInt_sub_divInt _ _ (by omega) (by omega), Rat.divInt_mul_divInt, Rat.divInt_mul_divInt, Rat.divInt_add_divInt _ _ n1 n2, Rat.divInt_eq_divInt_iff (Int.mul_ne_zero n1 n2) n3]
  grind
theorem sgn_eq (n : Int) : (if decide (0 < n) = true then (1 : Int) else 0) - (if decide (n < 0) = true then 1 else 0) = sgn n := by
  unfold sgn
  by_cases a : n < 0
  · rw [if_pos a, decide_eq_true a, decide_eq_false (by omega)]
    rfl
  · rw [if_neg a, decide_eq_false a]
    by_cases b : 0 < n
    · rw [if_pos b, decide_eq_true b]
      rfl
    · rw [if_neg b, decide_eq_false b]
      rfl
theorem sgn_b (n : Int) : Bt 2 (sgn n) := by
  unfold sgn
  split
  · show (-1 : Int).natAbs < 2 ^ 2; decide
  · split
    · show (1 : Int).natAbs < 2 ^ 2; decide
    · show (0 : Int).natAbs < 2 ^ 2; decide
theorem Qy.trk {t : Int} {q : Addr} (h : Qy K q t H) : H q ≠ none := by
  obtain ⟨o, e⟩ := h.at
  rw [e]
  exact Option.some_ne_none _
theorem one1 : Rat.divInt 1 1 = 1 := Rat.divInt_self' (by decide)
theorem zero1 : Rat.divInt 0 1 = 0 := Rat.zero_divInt 1
theorem cut_lc {te : TE} (P : Hp → Addr → Prop) (h1 : ∀ Q' : VK, (∀ H1 D, Same H H1 → P H1 D → Q' (.ref D) H1) → te σ H Q') (h2 : ∀ H1 D, Same H H1 → P H1 D → Q (.ref D) H1) : te σ H Q := h1 Q h2
theorem g_all {a : Addr} {bs : List Bool} (h : SqL K H a (bs.map V.bl)) (q : Q (.bl (bs.all id)) H) : rAll K [.ref a] H Q := ⟨a, bs, rfl, h, q⟩
theorem g_thenT {te : TE} (q : te σ H fun x H1 => kTup K x H1 Q) : tThen te (kTup K) σ H Q := q
theorem g_tupOf {a : Addr} {xs : List V} (h : SqL K H a xs) (q : ∀ p H2, H p = none → Same H H2 → H2 p = some (.tup xs) → Q (.ref p) H2) : kTup K (.ref a) H Q :=
  .inl ⟨a, xs, rfl, h, fun p hp => q p _ hp (same_new hp) upd_same⟩
theorem g_reprII {p : Addr} {x y : Int} {n : Nat} (e : SqL K H p [.int x, .int y]) (bx : Bt n x) (by_ : Bt n y) (l : n ≤ 1900) (k : Q (.str (PyData.list [.int x, .int y]).shown) H) : rReprU K [.ref p] H Q :=
  g_repr (.lst e (.cons (.int _) (.cons (.int _) .nil))) (shw_lst2 (shw_int bx l) (shw_int by_ l)).1 rfl (by simp [PyData.depth, PyData.depthAll]) ((shw_lst2 (shw_int bx l) (shw_int by_ l)).len (by have := int_w bx l; have := int_w by_ l; rw [PyData.weight]; simp only [PyData.weightAll]; omega)) k
end
end Mf
namespace Mf
open PySem PySem.Spec PyProof.Rows L2
theorem Rb1 : Rb 1 1 := ⟨by show (1 : Int).natAbs < 2 ^ 1; decide, by show ((1 : Nat) : Int).natAbs < 2 ^ 1; decide⟩
theorem Rb.mix {n1 n2 n3 : Nat} {r1 r2 r3 : Rat} (h1 : Rb n1 r1) (h2 : Rb n2 r2) (h3 : Rb n3 r3) : Rb (n1 + n2 + 2 * n3 + 3) ((1 - r3) * r1 + r3 * r2) :=
  (((Rb1.sub h3).mul h1).add (h3.mul h2)).mono (by omega)
section
variable {q : Addr} {K : PySem.W.Frag} {σ : L2.St} {H : Hp} {Q : VK}
theorem fr0 : Fr q K H (.int 0) 0 1 := by
  have z := Fr.int (q := q) (K := K) (H := H) (i := 0) (n := 1) (by show (0 : Int).natAbs < 2 ^ 1; decide) (by decide)
  rw [zero1] at z
  exact z
theorem fr1 : Fr q K H (.int 1) 1 1 := by
  have z := Fr.int (q := q) (K := K) (H := H) (i := 1) (n := 1) (by show (1 : Int).natAbs < 2 ^ 1; decide) (by decide)
  rw [one1] at z
  exact z
theorem Fr.pair {p : Addr} {x y : Int} {n : Nat} (h : SqT K H p [.int x, .int y]) (np : p ≠ q) (hy : 1 ≤ y) (bx : Bt n x) (b : Bt n y) : Fr q K H (.ref p) (Rat.divInt x y) n :=
  ⟨.tuple [.int x, .int y], .tup np h (.cons (.int _) (.cons (.int _) .nil)), (fr_pair hy bx b).1.1, rfl, bx, b, hy⟩
theorem g_neFFe {p1 p2 : Addr} {r s : Rat} (e : r = s) (e1 : SqT K H p1 (rv r)) (e2 : SqT K H p2 (rv s)) (k : Q (.bl false) H) : rNeU K (.ref p1) (.ref p2) H Q := by
  subst e
  exact g_neFF e1 e2 k
end
theorem sgn_neg (n : Int) : sgn (-n) = -sgn n := by
  unfold sgn
  by_cases a : n < 0
  · rw [if_pos a, if_neg (by omega), if_pos (by omega)] <;> rfl
  · rw [if_neg a]
    by_cases b : 0 < n
    · rw [if_pos b, if_pos (by omega)]
    · rw [if_neg b, if_neg (by omega), if_neg (by omega)] <;> rfl
theorem sgn_mul (m n : Int) : sgn (m * n) = sgn m * sgn n := by
  rcases Int.lt_trichotomy m 0 with a | a | a
  · rcases Int.lt_trichotomy n 0 with b | b | b
    · have := Int.mul_pos_of_neg_of_neg a b
      unfold sgn
      rw [if_neg (by omega), if_pos this, if_pos a, if_pos b]
      rfl
    · subst b
      rw [Int.mul_zero, show sgn 0 = 0 from rfl, Int.mul_zero]
    · have := Int.mul_neg_of_neg_of_pos a b
      unfold sgn
      rw [if_pos this, if_pos a, if_neg (by omega), if_pos b]
      rfl
  · subst a
    rw [Int.zero_mul, show sgn 0 = 0 from rfl, Int.zero_mul]
  · rcases Int.lt_trichotomy n 0 with b | b | b
    · have := Int.mul_neg_of_pos_of_neg a b
      unfold sgn
      rw [if_pos this, if_neg (by omega), if_pos a, if_pos b]
      rfl
    · subst b
      rw [Int.mul_zero, show sgn 0 = 0 from rfl, Int.mul_zero]
    · have := Int.mul_pos a b
      unfold sgn
      rw [if_neg (by omega), if_pos this, if_neg (by omega), if_pos a, if_neg (by omega), if_pos b]
      rfl
theorem sgn_sub (r s : Rat) : sgn (r - s).num = -sgn (s - r).num := by
  have e : r - s = -(s - r) := (Rat.neg_sub s r).symm
  rw [e, Rat.neg_num, sgn_neg]
theorem sgn_rmul (r s : Rat) : sgn (r * s).num = sgn r.num * sgn s.num := by
  rw [← mul_div, sgn_div (dd1 r s), sgn_mul]
theorem ne0_of_sgn {r : Rat} (h : sgn r.num ≠ 0) : r ≠ 0 := by
  intro e
  rw [e] at h
  exact h rfl
theorem half1 : Rat.divInt 1 2 = 1 / 2 := by rw [Rat.divInt_eq_div] <;> rfl
theorem quart1 : Rat.divInt 1 4 = 1 / 4 := by rw [Rat.divInt_eq_div] <;> rfl
example : [V.int 0, V.int 1] = rv 0 := rfl
example : [V.int 1, V.int 1] = rv 1 := rfl
end Mf
/-! own errors as values: made by place and by name, a field read, isinstance -/
namespace Mf
open PySem PySem.Spec PySem.Calls PyProof.Rows
section
open PySem.W
variable {prog : Program} {w : World} {A : Around} {E : Value → Shared → Prop} {s : Shared} {K : Frag} {x D : Addr} {ox : Obj} {od : Option Obj}
theorem findObj_dataO {C : Addr} {name : Str} {a g : Value} (hc : (clsIn K C).isSome = true) (ha : findIn K (.ref C) name = some (some a)) (hg : specialIn K a "__get__" = some (some g)) (ht : takesIn K a = some true) : findObj K C od name = some (.bind g a) := by
  obtain ⟨cd, hc⟩ := Option.isSome_iff_exists.mp hc
  unfold findObj
  rw [hc, Option.bind_some, ha, Option.bind_some]
  simp [hg, ht]
theorem kin_classO {Q : Option Value → Shared → Prop} (hga : findIn K (.ref D) "__getattribute__" = some (some (.builtin "BaseException.__getattribute__"))) (hgt : findIn K (.ref D) "__getattr__" = some none) (hsub : subIn K (.ref D) (.type "BaseException") = some true)
    (hdct : hasDictIn K D = true) (ha : findIn K (.ref D) "__class__" = some (some (.builtin "object.__class__")))
    (hn : specialIn K (.builtin "object.__class__") "__get__" = some (some (.builtin "getset_descriptor.__get__"))) (htk : takesIn K (.builtin "object.__class__") = some true) (hm : mroIn K D (.type "object") = some true)
    (X : K.In s.heap) (I : InstAt s.heap x ox D od) (h : Q (some (.ref D)) { s with toks := s.toks + 1 }) : wpAny (model prog w) A (getAttr? (.ref x) "__class__") Q E s := by
  have hf : findObj K D od "__class__" = some (.bind (.builtin "getset_descriptor.__get__") (.builtin "object.__class__")) := findObj_dataO (by obtain ⟨cd, hc, _⟩ := any_some hdct; rw [hc]; rfl) ha hn htk
  obtain ⟨hp, g, d, t, os⟩ := s
  have L0 := I.type (M := model prog w)
  have L1 := looks_findIn (M := model prog w) X hga
  have L2 := looks_findIn (M := model prog w) X hgt
  have L3 := looks_find (M := model prog w) X I hf
  have sub : Looks (model prog w) hp (isInstance (.ref x) (.type "BaseException")) true := L0.andThen (looks_subIn X hsub)
  have hx0 : (false && onTheHeap (Value.builtin "BaseException.__getattribute__")) = false := rfl
  have hx2 : (Value.builtin "BaseException.__getattribute__" == Value.builtin "object.__getattribute__") = false := by decide +kernel
  have hx1 : (onTheHeap (Value.ref D) && Value.builtin "BaseException.__getattribute__" == Value.builtin "object.__getattribute__") = false := by rw [hx2]; rfl
  unfold getAttr? getAttrBy? getAttrBy
  refine wpAny_bind (wpAny_mkText (wpAny_bind (wpAny_attempt (wpAny_holding (wpAny_bind (L0.at (wpAny_bind (L1.at ?_))))))))
  show wpAny _ _ (if (onTheHeap (Value.ref D) && Value.builtin "BaseException.__getattribute__" == Value.builtin "object.__getattribute__") = true then _ else _) _ _ _
  rw [hx1, if_neg Bool.false_ne_true]
  unfold getAttrByItsOwn hookBefore
  refine wpAny_bind ?_
  rw [if_pos (show onTheHeap (Value.ref D) = true from rfl)]
  refine L2.at ?_
  refine wpAny_bind (wpAny_attempt (wpAny_holding ?_))
  unfold callGetattribute
  rw [hx0, if_neg Bool.false_ne_true]
  unfold boundAndCalled
  rw [PySem.F.excAttr_ValueError.ga.bind (.ref x)]
  refine wpAny_bind (wpAny_pure ?_)
  show wpAny _ _ (call (.builtin "BaseException.__getattribute__") [.ref x, .str "__class__" t]) _ _ _
  refine wpAny_call (codeAny_call_builtin PySem.F.excAttr_ValueError.ga.plain PySem.F.entry_bexc_ga ?_)
  refine @check_slot (model prog w) _ _ ⟨hp, g, d, t + 1, os⟩ "BaseException.__getattribute__" "BaseException" "__getattribute__" (.ref x) [.str "__class__" t] [] _ (by decide +kernel) (by decide +kernel) sub (PySem.F.args_bexc_ga (.ref x) (.str "__class__" t)) ?_
  unfold Builtin.«object.__getattribute__»
  refine wpAny_bind (wpAny_of_eq (a := ((Value.ref x : Value), [Value.str "__class__" t])) (by first | rfl | (simp only [slotArgs]; rfl)) ?_)
  refine wpAny_bind (wpAny_pure (wpAny_bind (L0.at (wpAny_bind (L3.at ?_)))))
  show wpAny _ _ (holding [Value.builtin "object.__class__"] (call (.builtin "getset_descriptor.__get__") [.builtin "object.__class__", .ref x, .ref D]) >>= ret) _ _ _
  refine wpAny_bind (wpAny_holding (wpAny_call (class_get (s := ⟨hp, g, d, t + 1, os⟩) (ox := ox) (od := od) X I hm ?_)))
  refine wpAny_pure ?_
  show wpAny _ _ (handedOut (.ref D)) _ _ _
  rw [handedOut_of (v := .ref D) rfl]
  first
    | exact wpAny_pure (wpAny_pure h)
    | exact wpAny_pure h
    | exact wpAny_pure (wpAny_bind (wpAny_pure (wpAny_pure h)))
theorem kitx_excO (hga : findIn K (.ref D) "__getattribute__" = some (some (.builtin "BaseException.__getattribute__"))) (hgt : findIn K (.ref D) "__getattr__" = some none) (hsub : subIn K (.ref D) (.type "BaseException") = some true) (hdct : hasDictIn K D = true) (ha : findIn K (.ref D) "__class__" = some (some (.builtin "object.__class__")))
    (hn : specialIn K (.builtin "object.__class__") "__get__" = some (some (.builtin "getset_descriptor.__get__"))) (htk : takesIn K (.builtin "object.__class__") = some true) (hm : mroIn K D (.type "object") = some true) :
    KitX K (.ref x) (.ref D) (fun h => InstAt h x ox D od) where
  ty := fun _ _ _ I => I.type
  it := fun _ _ X _ => by
    obtain ⟨cdD, hcD, _⟩ := any_some hdct
    unfold clsIn at hcD
    split at hcD
    · rename_i c' d' cd' sl' ho
      intro A' Q' E' s' k q
      unfold isType loadHead
      exact wpAny_bind (wpAny_loadPart (k _ _ (X _ _ ho)) (wpAny_pure q))
    · cases hcD
  ne := fun h tp dd its n sl X htp => by
    obtain ⟨cdD, hcD, _⟩ := any_some hdct
    refine Bool.eq_false_iff.mpr fun q => ?_
    have e : D = tp := Value.ref.inj (beq_iff_eq.mp q)
    subst e
    unfold clsIn at hcD
    split at hcD
    · rename_i c' d' cd' sl' ho
      have z := (X _ _ ho).symm.trans htp
      cases z
    · cases hcD
  ca := fun X I k => kin_classO hga hgt hsub hdct ha hn htk hm X I k
end
open L2
/-- what the written part says of an own error's class -/
structure Erc (K : PySem.W.Frag) (C : Addr) : Prop where
  o : OexC K C
  c : ExcC K C
/-- an error that was made: its fields -/
def Er (H : Hp) (a C : Addr) (fs : List (Str × V)) : Prop := ∃ d, d ≠ a ∧ H a = some (exo a C (some d)) ∧ H d = some (exd d fs)
section
variable {X : Cx} {pins : List (Addr × Obj)} {σ : L2.St} {H : Hp} {s : Shared} {a C : Addr} {fs : List (Str × V)}
theorem Er.inst {P : Program} {w : World} {h : Heap} (e : Er H a C fs) (hok : HOk P w H h) : ∃ (oe od : Obj) (mA : Str → Option Value), PySem.W.InstAt h a oe C (some od) ∧ (∀ y, PySem.W.lookIn y od = some (mA y)) ∧ ∀ f, RelO (fs.lookup f) (mA f) := by
  obtain ⟨d, _, ea, ed⟩ := e
  obtain ⟨t1, ho⟩ := exo_at hok ea
  obtain ⟨mA, hns, rel⟩ := exd_at hok ed
  obtain ⟨od, hod, hl⟩ := lookIn_ns hns
  exact ⟨_, od, mA, ⟨ho, rfl, rfl, hod⟩, hl, rel⟩
/-- isinstance(e, T) -/
def rIsX (K : PySem.W.Frag) : List V → Hp → VK → Prop := fun xs H Q => ∃ (a C : Addr) (fs : List (Str × V)) (c : V) (u : Value) (b : Bool), xs = [.ref a, c] ∧ ClsV c u ∧ Erc K C ∧ Er H a C fs ∧ PySem.W.kitOne K (.ref C) u = some b ∧ Q (.bl b) H
/-- isinstance(e, (T, ..)) -/
def rIsXT (K : PySem.W.Frag) : List V → Hp → VK → Prop := fun xs H Q => ∃ (a C : Addr) (fs : List (Str × V)) (tp : Addr) (cs : List V) (us : List Value) (b : Bool), xs = [.ref a, .ref tp] ∧ H tp = some (.tup cs) ∧ Paired ClsV cs us ∧ Erc K C ∧ Er H a C fs ∧ PySem.W.kitAny K (.ref C) us = some b ∧ Q (.bl b) H
theorem call_isX : CallR X (.builtin "isinstance") (rIsX X.K) := by
  intro pins s σ H xs us Q I r h
  obtain ⟨a, C, fs, c, u, b, rfl, k, T, e, z, q⟩ := h
  obtain ⟨u1, u2, rfl, r1, r2⟩ := vals2 r
  have e2 := k.eq r2
  subst e2
  obtain rfl : u1 = Value.ref a := r1
  obtain ⟨oe, od, mA, J, _⟩ := e.inst I.hok
  exact PySem.W.kia_one (kitx_excO T.c.hg T.c.hk T.c.hs T.c.hd T.c.ha T.c.hn T.c.ht T.c.hm) I.kIn J z (fun z => nomatch z) fun tk => ⟨.bl b, H, I.tok tk, rfl, q⟩
/-- e.f -/
def tXat (K : PySem.W.Frag) (f : Str) (te : TE) : TE := fun σ H Q => te σ H fun x H1 => ∃ (a C : Addr) (fs : List (Str × V)) (v : V), x = .ref a ∧ Erc K C ∧ PySem.W.findIn K (.ref C) f = some none ∧ Er H1 a C fs ∧ fs.lookup f = some v ∧ Q v H1
theorem pe_xat {e : Expr} {f : Str} {te : TE} {pos : Pos} (he : PE X e te) (hb : attributeBase e f X.env (eval e X.env) = eval e X.env := by rfl) : PE X (.Attribute e f pos) (tXat X.K f te) := by
  refine ⟨fun pins s σ H Q I h => ?_⟩
  refine attr_of hb (thn (he.run pins s σ H _ I h) fun u s1 hh => ?_)
  obtain ⟨x, H1, I1, rx, a, C, fs, v, ex, T, hno, e1, l, q⟩ := hh
  subst ex
  obtain rfl : u = Value.ref a := rx
  obtain ⟨oe, od, mA, J, hl, hr⟩ := e1.inst I1.hok
  obtain ⟨u, hu, ru⟩ := RelO.some_of (v := v) (o := mA f) (by rw [← l]; exact hr f)
  exact HandSPX.exc_get I1.kIn J T.c.hg T.c.hk T.c.hs (PySem.W.findObj_own T.c.hd hno rfl (by rw [hl, hu])) (handed_of ru) ⟨v, H1, I1.tok _, ru, q⟩
end
section
variable {X : Cx}
theorem call_isXT : CallR X (.builtin "isinstance") (rIsXT X.K) := by
  intro pins s σ H xs us Q I r h
  obtain ⟨a, C, fs, tp, cs, ws, b, rfl, hT, k, T, e, z, q⟩ := h
  obtain ⟨u1, u2, rfl, r1, r2⟩ := vals2 r
  cases (show u2 = Value.ref tp from r2)
  obtain rfl : u1 = Value.ref a := r1
  obtain ⟨oe, od, mA, J, _⟩ := e.inst I.hok
  obtain ⟨_, its, rv, o, h1, h2, n, h3⟩ := (show ObjOk X.prog X.w H s.heap tp (.tup cs) from I.hok tp _ hT)
  have e3 := ClsV.all k rv
  subst e3
  obtain ⟨oc, od, dt, sl⟩ := o
  simp only at h2 h3
  subst h2 h3
  exact PySem.W.kia_tup (kitx_excO T.c.hg T.c.hk T.c.hs T.c.hd T.c.ha T.c.hn T.c.ht T.c.hm) I.kIn J h1 z (fun z => nomatch z) fun tk => ⟨.bl b, H, I.tok tk, rfl, q⟩
/-- isinstance of an own error, or of any other value -/
def rIsY (K : PySem.W.Frag) : List V → Hp → VK → Prop := fun xs H Q => rIsi K xs H Q ∨ rIsX K xs H Q ∨ rIsXT K xs H Q
theorem call_isY : CallR X (.builtin "isinstance") (rIsY X.K) := by
  intro pins s σ H xs us Q I r h
  rcases h with h | h | h
  · exact call_isi pins s σ H xs us Q I r h
  · exact call_isX pins s σ H xs us Q I r h
  · exact call_isXT pins s σ H xs us Q I r h
/-- C(e, ..), an own error that is kept -/
def tMkE (C : Addr) (sp : Sp) (t : TA) : TE := fun σ H Q => t σ H fun vs H1 => vs.length ≤ 1000 ∧ ∀ a, H1 a = none → sp (.ref a :: vs) (upd H1 a (exo a C none)) (fun v H2 => v = .non ∧ Q (.ref a) H2) E0
theorem pe_mkE {x : Str} {e : Expr} {es : List Expr} {t : TA} {p pos : Pos} {C fI : Addr} {k j : Nat} {fd : FuncData} {ps : List Str} {sp : Sp} (T : OexC X.K C) (iC : PySem.W.findIn X.K (.ref C) "__init__" = some (some (.ref fI))) (tI : PySem.W.typeIn X.K (.ref fI) = some (.type "function"))
    (F1 : FnG X.prog X.w X.K X.mg X.base CX0 k fI fd ps sp) (hA : X.A.guards = some []) (hr : Room j X.A) (hk : k + 1 ≤ j) (hb : Binds X.K fd ps []) (hg : Gl X x) (hm : X.mg x = some (.ref C)) (ha : PA X (e :: es) t)
    (hdb : (x == ("__debug__" : Str)) = false := by decide) (he : starEach (e :: es) X.env = (false, eval e X.env) :: starEach es X.env := by rfl) (hpl : (backTo pos (starEach es X.env)).any (·.1) = false := by rfl) :
    PE X (.Call (.Name x p) (e :: es) [] pos) (tMkE C sp t) := by
  refine ⟨fun pins s σ H Q I h => ?_⟩
  obtain ⟨nm, q, N, bs, bm, sn, sub, ab, col, dd, k0, k1, k2, k3, k5, hC, hbm⟩ := T.cls
  refine wpAny_Call_Name_kw (ld_glob I hg hm ?_ hdb)
  refine PySem.W.callWith_K (h₀ := X.base) I.ok.mod.kin T.kC (thn (ha.run pos pins s σ H _ I h) fun us s1 ⟨vs, H1, I1, r1, hz, q1⟩ => ⟨I1.kIn, ?_⟩) he hpl
  show wpAny _ _ (call (.ref C) us) _ _ _
  obtain ⟨hp, g, dr, tk, os⟩ := s1
  have hsz : hp.objs.size ≤ hp.objs.size + 1 := Nat.le_succ _
  have hn : H1 (hp.objs.size + 1) = none := I1.hok.fresh hsz
  have hq := q1 (hp.objs.size + 1) hn
  have kk : ∀ b o, hp.get? b = some o → ((hp.push (PySem.W.kdv_tup us)).push (PySem.HandSPX.excO C hp.objs.size)).get? b = some o := fun b o e => Heap.get?_push_of_some _ (Heap.get?_push_of_some _ e)
  have hget : ((hp.push (PySem.W.kdv_tup us)).push (PySem.HandSPX.excO C hp.objs.size)).get? (hp.objs.size + 1) = some (PySem.HandSPX.excO C hp.objs.size) := by heap_get
  have I2 : Inv X pins σ (upd H1 (hp.objs.size + 1) (exo (hp.objs.size + 1) C none)) ⟨(hp.push (PySem.W.kdv_tup us)).push (PySem.HandSPX.excO C hp.objs.size), g, dr, tk, os⟩ :=
    I1.laid (t' := tk) (a := hp.objs.size + 1) (o := exo (hp.objs.size + 1) C none) (h' := (hp.push (PySem.W.kdv_tup us)).push (PySem.HandSPX.excO C hp.objs.size)) kk hsz (exo_ok hget)
  have r2 : Vals (V.ref (hp.objs.size + 1) :: vs) (Value.ref (hp.objs.size + 1) :: us) := .cons rfl r1
  have hl : (Value.ref (hp.objs.size + 1) :: us ++ []).length = ps.length := by
    have e := r2.length
    rw [F1.size _ _ _ _ hq] at e
    rw [List.append_nil]
    exact e.symm
  have hus : us.length ≤ sizeLine := by
    rw [← Paired.length r1, sizeLine_eq]
    omega
  have hb' := hb _ (Value.ref (hp.objs.size + 1) :: us) I2.kIn hl
  rw [List.append_nil] at hb'
  refine wpAny_call (PySem.HandSPX.call_own F.excBase_ValueError (fun Y => PySem.HandSPX.refsVE_contains Y bm hbm) (I1.kIn _ _ hC) (PySem.W.looks_findIn I1.kIn iC) (fun self => PySem.W.bind_fn I1.kIn self tI) hus
    (codeAny_mono (F1.go (X.A.under (Code.builtin "type.__call__" ⟨Value.ref C :: us, []⟩)) (show (X.A.under (Code.builtin "type.__call__" ⟨Value.ref C :: us, []⟩)).guards = some [] from hA) X.stack _ _ ⟨Value.ref (hp.objs.size + 1) :: us, []⟩ (Value.ref (hp.objs.size + 1) :: us) _ _ E0 ((hr.mono hk).make C us []) (I2.env0.make C us []) hb' r2 hq) fun r s' hq' => ?_))
  cases r with
  | error er => exact pass0 pins σ _ _ er s' I2 hq'
  | ok fl =>
    cases fl with
    | ret u =>
      obtain ⟨v, H2, J, rv, ev, q2⟩ := I2.after hq'
      subst ev
      exact ⟨rv, .ref (hp.objs.size + 1), H2, J, rfl, q2⟩
    | next => exact False.elim hq'
    | brk => exact False.elim hq'
    | cont => exact False.elim hq'
end
end Mf
/-! own errors made by names alone -/
namespace PySem
namespace HandSPX
open Builtin Builtin.ObjectAttr
section
variable {prog : Program} {w : World} {M : Model} {A : Around} {E : Value → Shared → Prop} {R : Result → Shared → Prop} {h : Heap} {g : Array GenState} {d : Drawn} {t : Nat} {os : OsState}
variable {nm q : Str} {C N : Addr} {bs bm bmB : List Value} {hdct : Bool} {sn : List Str} {sub : List Value} {ab : Bool} {col : Option Bool} {dd : Option Addr} {k0 k1 k2 k3 k5 : Option Value} {B newId initId : String} {kw : List (Str × Value)}
theorem check_new_ownK (F : ExcBaseFacts B newId initId bmB) (hT : ∀ X : String, bm.contains (.type X) = bmB.contains (.type X)) {rest : List Value} {Q : Unit → Shared → Prop}
    (hC : h.get? C = some (excClassObj nm q C N bs bm hdct sn sub ab col dd k0 k1 k2 k3 k5 newId)) (hq : Q () ⟨h, g, d, t, os⟩) : wpAny M A (checkBuiltinCall newId ⟨.ref C :: rest, kw⟩) Q E ⟨h, g, d, t, os⟩ := by
  have hcont : (Value.ref C :: bm).contains (.type B) = true := by rw [List.contains_cons, hT, F.hasB, Bool.or_true]
  have hstar := F.noStar
  simp only [checkBuiltinCall, F.newKind, F.newSplit, F.newRow]
  repeat (first | refine wpAny_loadPart_at hC ?_ | (refine wpAny_isSubtype_exc hC ?_; rw [hcont]) | refine wpAny_staticBase_exc hC ?_ | refine wpAny_madeBy_exc hC ?_ | simp only [bne_self_eq_false, Bool.false_eq_true, if_false] | wp_step)
  exact hq
theorem new_ownK (F : ExcBaseFacts B newId initId bmB) (hT : ∀ X : String, bm.contains (.type X) = bmB.contains (.type X)) {rest : List Value}
    (hC : h.get? C = some (excClassObj nm q C N bs bm hdct sn sub ab col dd k0 k1 k2 k3 k5 newId))
    (hq : R (.ok (.ret (.ref (h.objs.size + 1)))) ⟨(h.push { cls := .type "tuple", data := .seq rest.toArray }).push
      { cls := .ref C, data := .fields #[.ref h.objs.size, .none, .none, .none, .bool false, .none] }, g, d, t, os⟩) (hrest : rest.length ≤ sizeLine) :
    codeAny (model prog w) A (.builtin newId ⟨.ref C :: rest, kw⟩) R ⟨h, g, d, t, os⟩ := by
  have hends := F.ends
  have hcB : (Value.ref C :: bm).contains (.type B) = true := by rw [List.contains_cons, hT, F.hasB, Bool.or_true]
  have hcA : (Value.ref C :: bm).contains (.type "AttributeError") = false := by rw [List.contains_cons, hT, F.noAttr]; rfl
  have hcN : (Value.ref C :: bm).contains (.type "NameError") = false := by rw [List.contains_cons, hT, F.noName]; rfl
  refine codeAny_builtinAt F.entry ?_
  unfold Builtin.«BaseException.__new__»
  refine wpAt_bind ?_
  show wpAt _ _ _ (stack >>= _) _ _ _
  refine wpAt_bind (wpAt_stack fun p below => wpAt_of_wpAny ?_)
  wp_walk
  refine wpAt_of_wpAny ?_
  rw [F.owner]
  repeat (first | with_reducible refine wpAny_madeHere_exc F.canon hC ?_ | with_reducible refine wpAny_loadPart_at hC ?_ | (with_reducible refine wpAny_isSubtype_exc hC ?_; first | rw [hcB] | rw [hcA] | rw [hcN]) | wp_step)
  show R _ _
  rw [Heap.size_push]
  exact hq
theorem type_call_ownK (F : ExcBaseFacts B newId initId bmB) (hT : ∀ X : String, bm.contains (.type X) = bmB.contains (.type X)) {rest : List Value} {fI : Addr} {Q : Fin → Shared → Prop}
    (hC : h.get? C = some (excClassObj nm q C N bs bm hdct sn sub ab col dd k0 k1 k2 k3 k5 newId))
    (hi : W.Looks (model prog w) h (typeLookup (.ref C) "__init__") (some (.ref fI))) (hb : ∀ self, W.Looks (model prog w) h (bindSpecial (.ref fI) self) (.ref fI, [self])) (hrest : rest.length ≤ sizeLine)
    (hq : codeAny (model prog w) A (.call (.ref fI) ⟨.ref (h.objs.size + 1) :: rest, kw⟩)
      (fun r s' => match r with | .ok (.ret v) => v = .none ∧ Q (.done (.ret (.ref (h.objs.size + 1)))) s' | .ok _ => False | .error e => E e s')
      ⟨(h.push (W.kdv_tup rest)).push (excO C h.objs.size), g, d, t, os⟩) :
    wpAny (model prog w) A (Builtin.«type.__call__» ⟨.ref C :: rest, kw⟩) Q E ⟨h, g, d, t, os⟩ := by
  repeat (first | with_reducible refine wpAny_loadPart_at hC ?_ | with_reducible refine wpAny_madeBy_exc hC ?_ | wp_step)
  refine codeAny_call_builtin_code (Code.quiet_builtin _ F.quiet) (check_new_ownK F hT hC ?_)
  refine new_ownK F hT hC ?_ hrest
  show wpAny _ _ _ _ _ _
  have k : ∀ b o, h.get? b = some o → ((h.push (W.kdv_tup rest)).push (excO C h.objs.size)).get? b = some o := fun b o e => Heap.get?_push_of_some _ (Heap.get?_push_of_some _ e)
  have hC₁ := k _ _ hC
  have hget : ((h.push (W.kdv_tup rest)).push (excO C h.objs.size)).get? (h.objs.size + 1) = some (excO C h.objs.size) := by heap_get
  have hcC : (Value.ref C :: bm).contains (.ref C) = true := by simp
  have i1 := hi.keeps k
  have b1 := (hb (.ref (h.objs.size + 1))).keeps k
  unfold isInstance
  repeat (first | with_reducible refine wpAny_loadPart_at hget ?_ | (with_reducible refine wpAny_isSubtype_exc hC₁ ?_; rw [hcC]) | wp_step)
  show wpAny _ _ (typeLookup (.ref C) _) _ _ _
  refine i1.at ?_
  refine wpAny_holding (wpAny_bind (b1.at ?_))
  refine wpAny_bind (wpAny_call (codeAny_mono hq fun r s' z => ?_))
  rcases r with e | (v | _ | _ | _) <;> first | exact z | exact z.elim | skip
  obtain ⟨rfl, z⟩ := z
  first
    | exact wpAny_pure (wpAny_pure z)
    | (wp_walk; exact z)
theorem check_type_call_subK {rest : List Value} {Q : Unit → Shared → Prop} (hC : h.get? C = some (excClassObj nm q C N bs bm hdct sn sub ab col dd k0 k1 k2 k3 k5 newId))
    (hq : Q () ⟨h, g, d, t, os⟩) : wpAny M A (checkBuiltinCall "type.__call__" ⟨.ref C :: rest, kw⟩) Q E ⟨h, g, d, t, os⟩ := by
  have f3 := tc_sub
  have hT : (⟨h, g, d, t, os⟩ : Shared).TypeIs (.ref C) "type" := ⟨_, hC, rfl⟩
  simp only [checkBuiltinCall, tc_kind, tc_split]
  repeat (any_goals (first | assumption | with_reducible refine wpAny_loadPart_at hC ?_ | with_reducible refine wpAny_onRaise ?_ | with_reducible refine wpAny_map ?_ | wp_step))
theorem call_ownK (F : ExcBaseFacts B newId initId bmB) (hT : ∀ X : String, bm.contains (.type X) = bmB.contains (.type X)) {rest : List Value} {fI : Addr}
    (hC : h.get? C = some (excClassObj nm q C N bs bm hdct sn sub ab col dd k0 k1 k2 k3 k5 newId))
    (hi : W.Looks (model prog w) h (typeLookup (.ref C) "__init__") (some (.ref fI))) (hb : ∀ self, W.Looks (model prog w) h (bindSpecial (.ref fI) self) (.ref fI, [self])) (hrest : rest.length ≤ sizeLine)
    (hq : codeAny (model prog w) (A.under (.builtin "type.__call__" ⟨.ref C :: rest, kw⟩)) (.call (.ref fI) ⟨.ref (h.objs.size + 1) :: rest, kw⟩) (W.InitBack (h.objs.size + 1) R)
      ⟨(h.push (W.kdv_tup rest)).push (excO C h.objs.size), g, d, t, os⟩) :
    codeAny (model prog w) A (.call (.ref C) ⟨rest, kw⟩) R ⟨h, g, d, t, os⟩ := by
  have f1 := tc_lookup
  have f2 := tc_bind (.ref C)
  have hTy : (⟨h, g, d, t, os⟩ : Shared).TypeIs (.ref C) "type" := ⟨_, hC, rfl⟩
  refine codeAny_of_tree ?_
  show wpAny _ _ (callAny (.ref C) _) _ _ _
  repeat (any_goals (first | assumption | with_reducible refine wpAny_loadPart_at hC ?_ | wp_step))
  refine ⟨rfl, ?_⟩
  refine codeAny_call_builtin_at (Code.quiet_builtin _ (by decide +kernel)) entry_typeCall (check_type_call_subK hC (type_call_ownK F hT hC hi hb hrest ?_))
  refine codeAny_mono hq fun r s' z => ?_
  rcases r with e | (v | _ | _ | _) <;> exact z
end
end HandSPX
end PySem
/-! own errors by their classes' names -/
namespace Mf
open PySem PySem.Spec PySem.Calls PyProof.Rows L2
theorem Er.go {H H' : Hp} {a C : Addr} {fs : List (Str × V)} (s : Same H H') (e : Er H a C fs) : Er H' a C fs := by
  obtain ⟨d, n, ea, ed⟩ := e
  exact ⟨d, n, s _ _ ea, s _ _ ed⟩
/-- what __init__ of an own error leaves: its fields -/
def sp_init (K : PySem.W.Frag) (fs : List Str) : Sp := fun vs H Q _ => ∃ (a C : Addr) (ws : List V), vs = .ref a :: ws ∧ ws.length = fs.length ∧ H a = some (exo a C none) ∧ OexC K C ∧ (∀ f ∈ fs, PySem.W.findIn K (.ref C) f = some none) ∧
  ∀ H' d, H d = none → d ≠ a → (∀ b o, b ≠ a → H b = some o → H' b = some o) → H' a = some (exo a C (some d)) → H' d = some (exd d (fs.zip ws).reverse) → Q .non H'
/-- a class of own errors, ready to be called -/
structure Ec (c : Cn) (x : Str) (C : Addr) (fs : List Str) : Prop where
  mg : c.mg x = some (.ref C)
  er : Erc c.K C
  no : ∀ f ∈ fs, PySem.W.findIn c.K (.ref C) f = some none
  ln : fs.length ≤ 900
  ex : ∃ (fI : Addr) (fd : FuncData), PySem.W.findIn c.K (.ref C) "__init__" = some (some (.ref fI)) ∧ PySem.W.typeIn c.K (.ref fI) = some (.type "function") ∧
    FnG c.P c.w c.K c.mg c.base CX0 1 fI fd ("self" :: fs) (sp_init c.K fs) ∧ L2.Binds c.K fd ("self" :: fs) [] ∧
    ∀ (s : Shared) (v : Value) (ws : List Value), ws.length = fs.length → BindsTo s fd ⟨[v], fs.reverse.zip ws⟩ ((Str.ofString "self" :: fs).zip (v :: ws.reverse))
/-- C(e, ..), an own error that is kept -/
def tMkX (c : Cn) (C : Addr) (fs : List Str) (t : TA) : TE := fun σ H Q => t σ H fun vs H1 => vs.length = fs.length ∧ ∀ a H2, H1 a = none → Same H1 H2 → Er H2 a C (fs.zip vs).reverse → Q (.ref a) H2
def tMkXk (c : Cn) (C : Addr) (fs : List Str) (t : TA) : TE := fun σ H Q => t σ H fun vs H1 => vs.length = fs.length ∧ ∀ a H2, H1 a = none → Same H1 H2 → Er H2 a C (fs.zip vs.reverse).reverse → Q (.ref a) H2
def tUp (t : TA) : TA := fun σ H Q => ∃ Q' : List V → Hp → Prop, t σ H Q' ∧ ∀ vs H1, Q' vs H1 → Q vs H1
theorem PA.up {X : Cx} {es : List Expr} {t : TA} (ha : PA X es t) : PA X es (tUp t) := ⟨fun pos pins s σ H Q I ⟨Q', h, k⟩ => thn (ha.run pos pins s σ H Q' I h) fun us s ⟨vs, H1, I1, r, q⟩ => ⟨vs, H1, I1, r, k _ _ q⟩⟩
theorem mkX_of {X : Cx} {x : Str} {C : Addr} {fs : List Str} {vs : List V} {H1 : Hp} {Q : VK} (c : Ec (cnOf X) x C fs) (q : vs.length = fs.length ∧ ∀ a H2, H1 a = none → Same H1 H2 → Er H2 a C (fs.zip vs).reverse → Q (.ref a) H2) :
    vs.length ≤ 1000 ∧ ∀ a, H1 a = none → sp_init X.K fs (.ref a :: vs) (upd H1 a (exo a C none)) (fun v H2 => v = .non ∧ Q (.ref a) H2) E0 := by
  obtain ⟨hl, q⟩ := q
  refine ⟨by rw [hl]; exact Nat.le_trans c.ln (by decide), fun a hn => ⟨a, C, vs, rfl, hl, upd_same, c.er.o, c.no, fun H' d hd n k e1 e2 => ⟨rfl, q a H' hn (fun b o z => ?_) ⟨d, n, e1, e2⟩⟩⟩⟩
  have nb : b ≠ a := ne_of_none z hn
  exact k b o nb (by rw [upd_ne nb]; exact z)
section
variable {X : Cx} {x : Str} {e : Expr} {es : List Expr} {t : TA} {p pos : Pos} {C : Addr} {j : Nat} {fs : List Str}
theorem pe_mkX (c : Ec (cnOf X) x C fs) (hA : X.A.guards = some []) (hr : Room j X.A) (hk : 2 ≤ j) (hg : Gl X x) (ha : PA X (e :: es) t)
    (hdb : (x == ("__debug__" : Str)) = false := by decide) (he : starEach (e :: es) X.env = (false, eval e X.env) :: starEach es X.env := by rfl) (hpl : (backTo pos (starEach es X.env)).any (·.1) = false := by rfl) :
    PE X (.Call (.Name x p) (e :: es) [] pos) (tMkX (cnOf X) C fs t) := by
  obtain ⟨fI, fd, iC, tI, F1, hb, _⟩ := c.ex
  have P := pe_mkE (p := p) (pos := pos) c.er.o iC tI F1 hA hr hk hb hg c.mg (PA.up ha) hdb he hpl
  refine ⟨fun pins s σ H Q I h => P.run pins s σ H Q I ⟨_, h, fun vs H1 q => ?_⟩⟩
  exact mkX_of c q
theorem pe_mkXk {kws : List Keyword} {tk : TA} (c : Ec (cnOf X) x C fs) (hA : X.A.guards = some []) (hr : Room j X.A) (hk : 2 ≤ j) (hg : Gl X x) (hkw : PK X kws tk)
    (hall : (backToKw pos (keywordEach kws X.env)).all (·.1.isSome) = true := by rfl) (hks : (backToKw pos (keywordEach kws X.env)).filterMap (·.1) = fs.reverse := by rfl)
    (hdb : (x == ("__debug__" : Str)) = false := by decide)
    (hpl : ((backTo pos (starEach [] X.env)).any (·.1) || (backToKw pos (keywordEach kws X.env)).any (·.1.isNone)) = false := by rfl) :
    PE X (.Call (.Name x p) [] kws pos) (tMkXk (cnOf X) C fs tk) := by
  obtain ⟨fI, fd, iC, tI, F1, _, hb⟩ := c.ex
  refine ⟨fun pins s σ H Q I h => ?_⟩
  obtain ⟨nm, q, N, bs, bm, sn, sub, ab, col, dd, k0, k1, k2, k3, k5, hC, hbm⟩ := c.er.o.cls
  refine wpAny_Call_Name_kw (ld_glob I hg c.mg ?_ hdb)
  refine PySem.W.callWith_KW0 (h₀ := X.base) I.ok.mod.kin c.er.o.kC hall (thn (hkw.run pos pins s σ H _ I h) ?_) hpl
  intro ws s1 ⟨zs, H1, I1, rz, hl, q1⟩
  refine ⟨I1.kIn, ?_⟩
  rw [hks]
  have l1 : ws.length = fs.length := by
    rw [← rz.length]
    exact hl
  obtain ⟨hp, g, dr, tk, os⟩ := s1
  have hsz : hp.objs.size ≤ hp.objs.size + 1 := Nat.le_succ _
  have hn : H1 (hp.objs.size + 1) = none := I1.hok.fresh hsz
  have kk : ∀ b o, hp.get? b = some o → ((hp.push (PySem.W.kdv_tup [])).push (PySem.HandSPX.excO C hp.objs.size)).get? b = some o := fun b o e => Heap.get?_push_of_some _ (Heap.get?_push_of_some _ e)
  have hget : ((hp.push (PySem.W.kdv_tup [])).push (PySem.HandSPX.excO C hp.objs.size)).get? (hp.objs.size + 1) = some (PySem.HandSPX.excO C hp.objs.size) := by heap_get
  have I2 : Inv X pins σ (upd H1 (hp.objs.size + 1) (exo (hp.objs.size + 1) C none)) ⟨(hp.push (PySem.W.kdv_tup [])).push (PySem.HandSPX.excO C hp.objs.size), g, dr, tk, os⟩ :=
    I1.laid (t' := tk) (a := hp.objs.size + 1) (o := exo (hp.objs.size + 1) C none) (h' := (hp.push (PySem.W.kdv_tup [])).push (PySem.HandSPX.excO C hp.objs.size)) kk hsz (exo_ok hget)
  have r2 : Vals (V.ref (hp.objs.size + 1) :: zs.reverse) (Value.ref (hp.objs.size + 1) :: ws.reverse) := .cons rfl rz.reverse
  have hq : sp_init X.K fs (V.ref (hp.objs.size + 1) :: zs.reverse) (upd H1 (hp.objs.size + 1) (exo (hp.objs.size + 1) C none)) (fun v H2 => v = .non ∧ Q (.ref (hp.objs.size + 1)) H2) E0 :=
    (mkX_of c (vs := zs.reverse) ⟨by rw [List.length_reverse]; exact hl, q1⟩).2 _ hn
  refine wpAny_call (PySem.HandSPX.call_ownK F.excBase_ValueError (fun Y => PySem.HandSPX.refsVE_contains Y bm hbm) (I1.kIn _ _ hC) (PySem.W.looks_findIn I1.kIn iC) (fun self => PySem.W.bind_fn I1.kIn self tI) (Nat.zero_le _)
    (codeAny_mono (F1.go (X.A.under (Code.builtin "type.__call__" ⟨[Value.ref C], fs.reverse.zip ws⟩)) (show (X.A.under (Code.builtin "type.__call__" ⟨[Value.ref C], fs.reverse.zip ws⟩)).guards = some [] from hA) X.stack _ _ ⟨[Value.ref (hp.objs.size + 1)], fs.reverse.zip ws⟩ (Value.ref (hp.objs.size + 1) :: ws.reverse) _ _ E0 ((hr.mono hk).make C [] (fs.reverse.zip ws)) (I2.env0.make C [] (fs.reverse.zip ws)) (hb _ _ ws l1) r2 hq) fun r s' hq' => ?_))
  cases r with
  | error er => exact pass0 pins σ _ _ er s' I2 hq'
  | ok fl =>
    cases fl with
    | ret u =>
      obtain ⟨v, H2, J, rv, ev, q2⟩ := I2.after hq'
      subst ev
      exact ⟨rv, .ref (hp.objs.size + 1), H2, J, rfl, q2⟩
    | next => exact False.elim hq'
    | brk => exact False.elim hq'
    | cont => exact False.elim hq'
end
end Mf
/-! what the classes' objects tell -/
namespace Mf
open PySem PySem.Spec PySem.Calls PyProof.Rows L2
/-- at C: an own error's class, its mro behind itself bm -/
def ClsAt (K : PySem.W.Frag) (C : Addr) (bm : List Value) : Prop := ∃ nm q N bs sn sub ab col dd k0 k1 k2 k3 k5, K.lookup C = some (excClassObj nm q C N bs bm true sn sub ab col dd k0 k1 k2 k3 k5 "ValueError.__new__")
abbrev veT : List Value := [.type "ValueError", .type "Exception", .type "BaseException", .type "object"]
section
variable {K : PySem.W.Frag} {C D : Addr} {bm bd : List Value}
theorem ClsAt.clsIn (h : ClsAt K C bm) : ∃ cd, PySem.W.clsIn K C = some cd ∧ cd.mro = .ref C :: bm ∧ cd.hasDict = true := by
  obtain ⟨nm, q, N, bs, sn, sub, ab, col, dd, k0, k1, k2, k3, k5, h⟩ := h
  exact ⟨_, by unfold PySem.W.clsIn; rw [h] <;> rfl, rfl, rfl⟩
theorem ClsAt.mro (h : ClsAt K C bm) (u : Value) : PySem.W.mroIn K C u = some ((Value.ref C :: bm).contains u) := by
  obtain ⟨cd, h1, h2, _⟩ := h.clsIn
  unfold PySem.W.mroIn
  rw [h1, Option.bind_some, h2]
  rfl
theorem ClsAt.ty (h : ClsAt K C bm) : PySem.W.typeIn K (.ref C) = some (.type "type") := by
  obtain ⟨nm, q, N, bs, sn, sub, ab, col, dd, k0, k1, k2, k3, k5, h⟩ := h
  show (K.lookup C).map (·.cls) = _
  rw [h] <;> rfl
theorem ClsAt.hd (h : ClsAt K C bm) : PySem.W.hasDictIn K C = true := by
  obtain ⟨cd, h1, _, h3⟩ := h.clsIn
  unfold PySem.W.hasDictIn
  rw [h1]
  exact h3
theorem kit_own (h : ClsAt K C bm) (g : ClsAt K D bd) : PySem.W.kitOne K (.ref C) (.ref D) = some (decide (C = D) || bm.contains (.ref D)) := by
  unfold PySem.W.kitOne
  by_cases e : C = D
  · subst e
    rw [if_pos (beq_self_eq_true _), decide_eq_true rfl]
    rfl
  · have ne : ¬ ((Value.ref C == Value.ref D) = true) := fun z => e (Value.ref.inj (beq_iff_eq.mp z))
    rw [if_neg ne, decide_eq_false e, Bool.false_or]
    obtain ⟨cd, h1, _⟩ := g.clsIn
    show (if ((PySem.W.clsIn K D).isSome && PySem.W.typeIn K (.ref D) == some (.type "type")) = true then PySem.W.mroIn K C (.ref D) else none) = _
    rw [h1, g.ty, if_pos (by simp), h.mro]
    have n2 : (Value.ref D == Value.ref C) = false := by
      cases z : (Value.ref D == Value.ref C) with
      | false => rfl
      | true => exact absurd (Value.ref.inj (beq_iff_eq.mp z)).symm e
    rw [List.contains_cons, n2, Bool.false_or]
theorem kit_blt {T : String} {b : Bool} (h : ClsAt K C bm) (hm : PySem.W.kitMeta T = true) (hb : bm.contains (.type T) = b) : PySem.W.kitOne K (.ref C) (.type T) = some b := by
  unfold PySem.W.kitOne
  have ne : ¬ ((Value.ref C == Value.type T) = true) := fun z => by
    have z' := beq_iff_eq.mp z
    cases z'
  rw [if_neg ne]
  show (if PySem.W.kitMeta T = true then PySem.W.mroIn K C (.type T) else none) = _
  rw [if_pos hm, h.mro, List.contains_cons]
  have n2 : (Value.type T == Value.ref C) = false := by
    cases z : (Value.type T == Value.ref C) with
    | false => rfl
    | true =>
      have z' := beq_iff_eq.mp z
      cases z'
  rw [n2, Bool.false_or, hb]
end
/-- the class as it stands -/
structure Ed (c : Cn) (x q : Str) (st : Stmt) (C : Addr) (bm : List Value) (fs : List Str) : Prop where
  mg : c.mg x = some (.ref C)
  cl : ClsAt c.K C bm
  ve : PySem.HandSPX.refsVE bm = true
  ob : bm.contains (.type "object") = true
  be : bm.contains (.type "BaseException") = true
  sa : PySem.W.findIn c.K (.ref C) "__setattr__" = some (some (.builtin "object.__setattr__"))
  kC : PySem.W.keepIn c.K (.ref C) = true
  hg : PySem.W.findIn c.K (.ref C) "__getattribute__" = some (some (.builtin "BaseException.__getattribute__"))
  hk : PySem.W.findIn c.K (.ref C) "__getattr__" = some none
  ha : PySem.W.findIn c.K (.ref C) "__class__" = some (some (.builtin "object.__class__"))
  hn : PySem.W.specialIn c.K (.builtin "object.__class__") "__get__" = some (some (.builtin "getset_descriptor.__get__"))
  ht : PySem.W.takesIn c.K (.builtin "object.__class__") = some true
  no : ∀ f ∈ fs, PySem.W.findIn c.K (.ref C) f = some none
  ex : ∃ (fI : Addr) (fd : FuncData), PySem.W.findIn c.K (.ref C) "__init__" = some (some (.ref fI)) ∧ PySem.W.typeIn c.K (.ref fI) = some (.type "function") ∧ Fun c.K "__init__" q st fI fd
section
variable {c : Cn} {x q : Str} {st : Stmt} {C : Addr} {bm : List Value} {fs : List Str}
theorem Ed.erc (D : Ed c x q st C bm fs) : Erc c.K C := by
  have hs : PySem.W.subIn c.K (.ref C) (.type "BaseException") = some true := by
    show PySem.W.mroIn c.K C (.type "BaseException") = some true
    rw [D.cl.mro, List.contains_cons, D.be, Bool.or_true]
  have hm : PySem.W.mroIn c.K C (.type "object") = some true := by
    rw [D.cl.mro, List.contains_cons, D.ob, Bool.or_true]
  obtain ⟨nm, qn, N, bs, sn, sub, ab, col, dd, k0, k1, k2, k3, k5, h⟩ := D.cl
  exact ⟨⟨⟨nm, qn, N, bs, bm, sn, sub, ab, col, dd, k0, k1, k2, k3, k5, h, D.ve⟩, D.sa, hs, ClsAt.ty ⟨nm, qn, N, bs, sn, sub, ab, col, dd, k0, k1, k2, k3, k5, h⟩, D.kC⟩,
    ⟨D.hg, D.hk, hs, ClsAt.hd ⟨nm, qn, N, bs, sn, sub, ab, col, dd, k0, k1, k2, k3, k5, h⟩, D.ha, D.hn, D.ht, hm⟩⟩
def PlI (q : Str) (st : Stmt) (ps : List Str) : Prop := ∀ (kV doc pm : Value) (an : Option Addr) (cdv ct : Value) (us : List Value), us.length = ps.length →
  bindArgs (PySem.W.fnOf "__init__" q (defArgs st) (defBody st) (defScope st) .none kV doc pm an cdv ct) ⟨us, []⟩ = pure (ps.zip us)
def PkI (q : Str) (st : Stmt) (fs : List Str) : Prop := ∀ (kV doc pm : Value) (an : Option Addr) (cdv ct : Value) (v : Value) (ws : List Value), ws.length = fs.length →
  bindArgs (PySem.W.fnOf "__init__" q (defArgs st) (defBody st) (defScope st) .none kV doc pm an cdv ct) ⟨[v], fs.reverse.zip ws⟩ = pure ((Str.ofString "self" :: fs).zip (v :: ws.reverse))
theorem Ed.ec {N : List Str} (D : Ed c x q st C bm fs) (hz : fs.length ≤ 900) (S : FnScope N (Str.ofString "self" :: fs) (defScope st)) (hp : PlI q st (Str.ofString "self" :: fs)) (hk : PkI q st fs)
    (hbody : ∀ (f : Addr) (cdv : Value) (A : Around) (outer : List Env) (s : Shared) (H : Hp) (vs : List V) (Q : VK) (E : XK),
      sp_init c.K fs vs H Q E → ∃ t, PSs (cxOf CX0 c.P c.w c.K c.mg c.base N q (defScope st) f cdv A outer s H E).nox (defBody st) t ∧
        t { nx := fun _ H' => Q .non H', rt := Q } (start N vs) H) : Ec c x C fs := by
  obtain ⟨fI, fd, iC, tI, F⟩ := D.ex
  refine ⟨D.mg, D.erc, D.no, hz, fI, fd, iC, tI, okG F S (fun vs H Q E h => ?_) (fun cdv A outer s H vs Q E _ _ h => hbody fI cdv A outer s H vs Q E h), F.binds hp, fun s v ws hl => ?_⟩
  · obtain ⟨a, C, ws, rfl, hl, _⟩ := h
    show ws.length + 1 = fs.length + 1
    rw [hl]
  · obtain ⟨oc, od, kV, doc, pm, an, cdv, ct, osl, rfl, lk, hcd⟩ := F.ex
    exact .of_eq (hk kV doc pm an cdv ct v ws hl)
/-- self.f = f -/
theorem init1_rd {K : PySem.W.Frag} {f : Str} {vs : List V} {H : Hp} {Q : VK} {E : XK} (h : sp_init K [f] vs H Q E) :
    tOst K f (tVar 0) (tVar 1) { nx := fun _ H' => Q .non H', rt := Q } (start ["self", f] vs) H := by
  obtain ⟨a, C, ws, rfl, hl, e, T, no, k⟩ := h
  match ws, hl with
  | [v], _ =>
    unfold tOst
    refine g_var (v := v) rfl ?_
    refine g_var (v := .ref a) rfl ?_
    refine ⟨a, C, rfl, T, no f (List.mem_cons_self ..), .inl ⟨e, fun dx hd ne => ?_⟩⟩
    refine k _ dx hd ne (fun b o nb eb => ?_) upd_same (by rw [upd_ne ne]; exact upd_same)
    rw [upd_ne nb, upd_ne (ne_of_none eb hd)]
    exact eb
theorem init2_rd {K : PySem.W.Frag} {f g : Str} {vs : List V} {H : Hp} {Q : VK} {E : XK} (h : sp_init K [f, g] vs H Q E) :
    tSeq (tOst K f (tVar 0) (tVar 1)) (tOst K g (tVar 0) (tVar 2)) { nx := fun _ H' => Q .non H', rt := Q } (start ["self", f, g] vs) H := by
  obtain ⟨a, C, ws, rfl, hl, e, T, no, k⟩ := h
  match ws, hl with
  | [v, z], _ =>
    refine g_seq ?_
    unfold tOst
    refine g_var (v := v) rfl ?_
    refine g_var (v := .ref a) rfl ?_
    refine ⟨a, C, rfl, T, no f (List.mem_cons_self ..), .inl ⟨e, fun dx hd ne => ?_⟩⟩
    have e1 : upd (upd H dx (exd dx [(f, v)])) a (exo a C (some dx)) a = some (exo a C (some dx)) := upd_same
    have e2 : upd (upd H dx (exd dx [(f, v)])) a (exo a C (some dx)) dx = some (exd dx [(f, v)]) := by
      rw [upd_ne ne]
      exact upd_same
    dsimp only
    refine g_var (v := z) rfl ?_
    refine g_var (v := .ref a) rfl ?_
    refine ⟨a, C, rfl, T, no g (List.mem_cons_of_mem _ (List.mem_cons_self ..)), .inr ⟨dx, _, e1, e2, by show 1 ≤ 900; decide, ?_⟩⟩
    refine k _ dx hd ne (fun b o nb eb => ?_) (by rw [upd_ne (Ne.symm ne)]; exact e1) upd_same
    rw [upd_ne (ne_of_none eb hd), upd_ne nb, upd_ne (ne_of_none eb hd)]
    exact eb
end
end Mf
/-! own errors that are raised, and caught; repr of values with an empty dict -/
namespace Mf
open PySem PySem.Spec PySem.Calls PyProof.Rows L2
def tMkR (C : Addr) (fs : List Str) (t : TA) : L2.St → Hp → XK → Prop := fun σ H Q => t σ H fun vs H1 => vs.length = fs.length ∧ ∀ d H2, H1 d = none → Same H1 H2 → H2 d = some (.xd (fs.zip vs).reverse) → Q (.ref C) (some d) H2
def tMkRk (C : Addr) (fs : List Str) (t : TA) : L2.St → Hp → XK → Prop := fun σ H Q => t σ H fun vs H1 => vs.length = fs.length ∧ ∀ d H2, H1 d = none → Same H1 H2 → H2 d = some (.xd (fs.zip vs.reverse).reverse) → Q (.ref C) (some d) H2
theorem mkR_same {H1 H2 : Hp} {a C d : Addr} {u : HO} (hn : H1 a = none) (hd : H1 d = none) (k : ∀ b o, b ≠ a → upd H1 a (exo a C none) b = some o → H2 b = some o) : Same H1 (upd (del H2 a) d u) := fun b o e => by
  have nb : b ≠ a := ne_of_none e hn
  rw [upd_ne (ne_of_none e hd), del_ne nb]
  exact k b o nb (by rw [upd_ne nb]; exact e)
section
variable {X : Cx} {x : Str} {e : Expr} {es : List Expr} {t : TA} {p pos : Pos} {C : Addr} {j : Nat} {fs : List Str}
theorem pmk_mkX (c : Ec (cnOf X) x C fs) (hA : X.A.guards = some []) (hr : Room j X.A) (hk : 2 ≤ j) (hg : Gl X x) (ha : PA X (e :: es) t)
    (hdb : (x == ("__debug__" : Str)) = false := by decide) (he : starEach (e :: es) X.env = (false, eval e X.env) :: starEach es X.env := by rfl) (hpl : (backTo pos (starEach es X.env)).any (·.1) = false := by rfl) :
    PMk X (.Call (.Name x p) (e :: es) [] pos) (tMkR C fs t) := by
  obtain ⟨fI, fd, iC, tI, F1, hb, _⟩ := c.ex
  intro pins s σ H Q I h
  have T := c.er.o
  obtain ⟨nm, q, N, bs, bm, sn, sub, ab, col, dd, k0, k1, k2, k3, k5, hC, hbm⟩ := T.cls
  refine wpAny_Call_Name_kw (ld_glob I hg c.mg ?_ hdb)
  refine PySem.W.callWith_K (h₀ := X.base) I.ok.mod.kin T.kC (thn (ha.run pos pins s σ H _ I h) fun us s1 ⟨vs, H1, I1, r1, hz, q1⟩ => ⟨I1.kIn, ?_⟩) he hpl
  show wpAny _ _ (call (.ref C) us) _ _ _
  obtain ⟨hp, g, dr, tk, os⟩ := s1
  have hsz : hp.objs.size ≤ hp.objs.size + 1 := Nat.le_succ _
  have hn : H1 (hp.objs.size + 1) = none := I1.hok.fresh hsz
  have kk : ∀ b o, hp.get? b = some o → ((hp.push (PySem.W.kdv_tup us)).push (PySem.HandSPX.excO C hp.objs.size)).get? b = some o := fun b o e => Heap.get?_push_of_some _ (Heap.get?_push_of_some _ e)
  have hget : ((hp.push (PySem.W.kdv_tup us)).push (PySem.HandSPX.excO C hp.objs.size)).get? (hp.objs.size + 1) = some (PySem.HandSPX.excO C hp.objs.size) := by heap_get
  have I2 : Inv X pins σ (upd H1 (hp.objs.size + 1) (exo (hp.objs.size + 1) C none)) ⟨(hp.push (PySem.W.kdv_tup us)).push (PySem.HandSPX.excO C hp.objs.size), g, dr, tk, os⟩ :=
    I1.laid (t' := tk) (a := hp.objs.size + 1) (o := exo (hp.objs.size + 1) C none) (h' := (hp.push (PySem.W.kdv_tup us)).push (PySem.HandSPX.excO C hp.objs.size)) kk hsz (exo_ok hget)
  have r2 : Vals (V.ref (hp.objs.size + 1) :: vs) (Value.ref (hp.objs.size + 1) :: us) := .cons rfl r1
  have hus : us.length ≤ sizeLine := by
    rw [← Paired.length r1, sizeLine_eq, hz]
    have := c.ln
    omega
  have hq : sp_init X.K fs (V.ref (hp.objs.size + 1) :: vs) (upd H1 (hp.objs.size + 1) (exo (hp.objs.size + 1) C none))
      (fun v H2 => v = .non ∧ ∃ d, H1 d = none ∧ H2 (hp.objs.size + 1) = some (exo (hp.objs.size + 1) C (some d)) ∧ H2 d = some (exd d (fs.zip vs).reverse) ∧ Q (.ref C) (some d) (upd (del H2 (hp.objs.size + 1)) d (.xd (fs.zip vs).reverse))) E0 := by
    refine ⟨hp.objs.size + 1, C, vs, rfl, hz, upd_same, T, c.no, fun H' d hd n k e1 e2 => ?_⟩
    have hd1 : H1 d = none := by rw [upd_ne n] at hd; exact hd
    exact ⟨rfl, d, hd1, e1, e2, q1 d _ hd1 (mkR_same hn hd1 k) upd_same⟩
  have hl : (Value.ref (hp.objs.size + 1) :: us ++ []).length = (Str.ofString "self" :: fs).length := by
    have e := r2.length
    rw [F1.size _ _ _ _ hq] at e
    rw [List.append_nil]
    exact e.symm
  have hb' := hb _ (Value.ref (hp.objs.size + 1) :: us) I2.kIn hl
  rw [List.append_nil] at hb'
  refine wpAny_call (PySem.HandSPX.call_own F.excBase_ValueError (fun Y => PySem.HandSPX.refsVE_contains Y bm hbm) (I1.kIn _ _ hC) (PySem.W.looks_findIn I1.kIn iC) (fun self => PySem.W.bind_fn I1.kIn self tI) hus
    (codeAny_mono (F1.go (X.A.under (Code.builtin "type.__call__" ⟨Value.ref C :: us, []⟩)) (show (X.A.under (Code.builtin "type.__call__" ⟨Value.ref C :: us, []⟩)).guards = some [] from hA) X.stack _ _ ⟨Value.ref (hp.objs.size + 1) :: us, []⟩ (Value.ref (hp.objs.size + 1) :: us) _ _ E0 ((hr.mono hk).make C us []) (I2.env0.make C us []) hb' r2 hq) fun r s' hq' => ?_))
  cases r with
  | error er => exact pass0 pins σ _ _ er s' I2 hq'
  | ok fl =>
    cases fl with
    | ret u =>
      obtain ⟨v, H2, os2, bare2, un2, hok2, rv, ev, d, hd1, ea, ed, q2⟩ := hq'
      subst ev
      obtain ⟨h2, g2, d2, t2, os'⟩ := s'
      exact ⟨rv, mk_end (raises_own T.exC T.tyC) I1 hsz kk un2 hok2 os2 bare2 ea ed hd1 q2⟩
    | next => exact False.elim hq'
    | brk => exact False.elim hq'
    | cont => exact False.elim hq'
theorem pmk_mkXk {kws : List Keyword} {tk : TA} (c : Ec (cnOf X) x C fs) (hA : X.A.guards = some []) (hr : Room j X.A) (hk : 2 ≤ j) (hg : Gl X x) (hkw : PK X kws tk)
    (hall : (backToKw pos (keywordEach kws X.env)).all (·.1.isSome) = true := by rfl) (hks : (backToKw pos (keywordEach kws X.env)).filterMap (·.1) = fs.reverse := by rfl)
    (hdb : (x == ("__debug__" : Str)) = false := by decide)
    (hpl : ((backTo pos (starEach [] X.env)).any (·.1) || (backToKw pos (keywordEach kws X.env)).any (·.1.isNone)) = false := by rfl) :
    PMk X (.Call (.Name x p) [] kws pos) (tMkRk C fs tk) := by
  obtain ⟨fI, fd, iC, tI, F1, _, hb⟩ := c.ex
  intro pins s σ H Q I h
  have T := c.er.o
  obtain ⟨nm, q, N, bs, bm, sn, sub, ab, col, dd, k0, k1, k2, k3, k5, hC, hbm⟩ := T.cls
  refine wpAny_Call_Name_kw (ld_glob I hg c.mg ?_ hdb)
  refine PySem.W.callWith_KW0 (h₀ := X.base) I.ok.mod.kin T.kC hall (thn (hkw.run pos pins s σ H _ I h) ?_) hpl
  intro ws s1 ⟨zs, H1, I1, rz, hz, q1⟩
  refine ⟨I1.kIn, ?_⟩
  rw [hks]
  have l1 : ws.length = fs.length := by
    rw [← rz.length]
    exact hz
  obtain ⟨hp, g, dr, tk, os⟩ := s1
  have hsz : hp.objs.size ≤ hp.objs.size + 1 := Nat.le_succ _
  have hn : H1 (hp.objs.size + 1) = none := I1.hok.fresh hsz
  have kk : ∀ b o, hp.get? b = some o → ((hp.push (PySem.W.kdv_tup [])).push (PySem.HandSPX.excO C hp.objs.size)).get? b = some o := fun b o e => Heap.get?_push_of_some _ (Heap.get?_push_of_some _ e)
  have hget : ((hp.push (PySem.W.kdv_tup [])).push (PySem.HandSPX.excO C hp.objs.size)).get? (hp.objs.size + 1) = some (PySem.HandSPX.excO C hp.objs.size) := by heap_get
  have I2 : Inv X pins σ (upd H1 (hp.objs.size + 1) (exo (hp.objs.size + 1) C none)) ⟨(hp.push (PySem.W.kdv_tup [])).push (PySem.HandSPX.excO C hp.objs.size), g, dr, tk, os⟩ :=
    I1.laid (t' := tk) (a := hp.objs.size + 1) (o := exo (hp.objs.size + 1) C none) (h' := (hp.push (PySem.W.kdv_tup [])).push (PySem.HandSPX.excO C hp.objs.size)) kk hsz (exo_ok hget)
  have r2 : Vals (V.ref (hp.objs.size + 1) :: zs.reverse) (Value.ref (hp.objs.size + 1) :: ws.reverse) := .cons rfl rz.reverse
  have hq : sp_init X.K fs (V.ref (hp.objs.size + 1) :: zs.reverse) (upd H1 (hp.objs.size + 1) (exo (hp.objs.size + 1) C none))
      (fun v H2 => v = .non ∧ ∃ d, H1 d = none ∧ H2 (hp.objs.size + 1) = some (exo (hp.objs.size + 1) C (some d)) ∧ H2 d = some (exd d (fs.zip zs.reverse).reverse) ∧ Q (.ref C) (some d) (upd (del H2 (hp.objs.size + 1)) d (.xd (fs.zip zs.reverse).reverse))) E0 := by
    refine ⟨hp.objs.size + 1, C, zs.reverse, rfl, by rw [List.length_reverse]; exact hz, upd_same, T, c.no, fun H' d hd n k e1 e2 => ?_⟩
    have hd1 : H1 d = none := by rw [upd_ne n] at hd; exact hd
    exact ⟨rfl, d, hd1, e1, e2, q1 d _ hd1 (mkR_same hn hd1 k) upd_same⟩
  refine wpAny_call (PySem.HandSPX.call_ownK F.excBase_ValueError (fun Y => PySem.HandSPX.refsVE_contains Y bm hbm) (I1.kIn _ _ hC) (PySem.W.looks_findIn I1.kIn iC) (fun self => PySem.W.bind_fn I1.kIn self tI) (Nat.zero_le _)
    (codeAny_mono (F1.go (X.A.under (Code.builtin "type.__call__" ⟨[Value.ref C], fs.reverse.zip ws⟩)) (show (X.A.under (Code.builtin "type.__call__" ⟨[Value.ref C], fs.reverse.zip ws⟩)).guards = some [] from hA) X.stack _ _ ⟨[Value.ref (hp.objs.size + 1)], fs.reverse.zip ws⟩ (Value.ref (hp.objs.size + 1) :: ws.reverse) _ _ E0 ((hr.mono hk).make C [] (fs.reverse.zip ws)) (I2.env0.make C [] (fs.reverse.zip ws)) (hb _ _ ws l1) r2 hq) fun r s' hq' => ?_))
  cases r with
  | error er => exact pass0 pins σ _ _ er s' I2 hq'
  | ok fl =>
    cases fl with
    | ret u =>
      obtain ⟨v, H2, os2, bare2, un2, hok2, rv, ev, d, hd1, ea, ed, q2⟩ := hq'
      subst ev
      obtain ⟨h2, g2, d2, t2, os'⟩ := s'
      exact ⟨rv, mk_end (raises_own T.exC T.tyC) I1 hsz kk un2 hok2 os2 bare2 ea ed hd1 q2⟩
    | next => exact False.elim hq'
    | brk => exact False.elim hq'
    | cont => exact False.elim hq'
/-- e.f, e the error that the suite holds -/
def tByX (K : PySem.W.Frag) (a : Addr) (cls : Value) (d : Option Addr) (f : Str) (te : TE) : TE := fun σ H Q => te σ H fun x H1 => x = .ref a ∧ ∃ (C dd : Addr) (fs : List (Str × V)) (v : V), cls = .ref C ∧ Erc K C ∧ PySem.W.findIn K (.ref C) f = some none ∧ d = some dd ∧ H1 dd = some (.xd fs) ∧ fs.lookup f = some v ∧ Q v H1
theorem pe_byX {f : Str} {a : Addr} {oe : Obj} {cls : Value} {d : Option Addr} {pn : List (Addr × Obj)} {te : TE} (hz : Zc cls d oe) (hf : ∃ vs, oe.data = .fields vs) (he : PE (X.suite a ((a, oe) :: pn)) e te)
    (hb : attributeBase e f X.env (eval e X.env) = eval e X.env := by rfl) :
    PE (X.suite a ((a, oe) :: pn)) (.Attribute e f pos) (tByX X.K a cls d f te) := by
  refine ⟨fun pins s σ H Q I h => ?_⟩
  refine attr_of hb (thn (he.run pins s σ H _ I h) fun u s1 hh => ?_)
  obtain ⟨x, H1, I1, rx, ex, C, dd, fs, v, ec, T, no, ed, ea, l, q⟩ := hh
  subst ex
  obtain rfl : u = Value.ref a := rx
  subst ec
  subst ed
  obtain ⟨ha, _⟩ := I1.pin (a, oe) (List.mem_append_left _ List.mem_cons_self)
  obtain ⟨vs, hd⟩ := hf
  have hx : ObjOk X.prog X.w H1 s1.heap dd (.xd fs) := I1.hok dd _ ea
  obtain ⟨mA, hns, hr⟩ := hx
  obtain ⟨od, ho, hl⟩ := lookIn_ns hns
  obtain ⟨u, hu, ru⟩ := RelO.some_of (v := v) (o := mA f) (by rw [← l]; exact hr f)
  have J : PySem.W.InstAt s1.heap a oe C (some od) := ⟨ha, hz.1, by unfold PySem.W.notCls; rw [hd] <;> rfl, by rw [hz.2]; exact ho⟩
  exact HandSPX.exc_get I1.kIn J T.c.hg T.c.hk T.c.hs (PySem.W.findObj_own T.c.hd no rfl (by rw [hl, hu])) (handed_of ru) ⟨v, H1, I1.tok _, ru, q⟩
end
end Mf
/-! the fields of k00: values with an empty dict, their repr -/
namespace Mf
open PySem PySem.Spec PySem.Calls PyProof.Rows L2
def leafD : PyData → Bool
  | .none | .bool _ | .int _ | .str _ => true
  | _ => false
/-- a value of the menu: data without a list, or [i, [j]], or the empty dict -/
def Dk (q : Addr) (K : PySem.W.Frag) (H : Hp) (v : V) (d : PyData) : Prop := (leafD d = true ∧ Dq q K H v d) ∨
  (∃ (a b : Addr) (i j : Int), d = .list [.int i, .list [.int j]] ∧ v = .ref a ∧ a ≠ q ∧ b ≠ q ∧ a ≠ sysModules ∧ b ≠ sysModules ∧ H a = some (.lst [.int i, .ref b]) ∧ H b = some (.lst [.int j])) ∨
  (∃ (a : Addr) (i j : Int), d = .tuple [.int i, .int j] ∧ v = .ref a ∧ a ≠ q ∧ H a = some (.tup [.int i, .int j])) ∨
  (d = .dict [] ∧ ∃ a, v = .ref a ∧ a ≠ q ∧ H a = some (.dK []))
theorem Dk.go {q : Addr} {K : PySem.W.Frag} {H H' : Hp} {v : V} {d : PyData} (s : SameX q H H') (h : Dk q K H v d) : Dk q K H' v d := by
  rcases h with ⟨n, h⟩ | ⟨a, b, i, j, e1, e2, n1, n2, m1, m2, h1, h2⟩ | ⟨a, i, j, e1, e2, n1, h1⟩ | ⟨rfl, a, rfl, n, e⟩
  · exact .inl ⟨n, h.go s⟩
  · exact .inr (.inl ⟨a, b, i, j, e1, e2, n1, n2, m1, m2, s.kept _ _ n1 h1, s.kept _ _ n2 h2⟩)
  · exact .inr (.inr (.inl ⟨a, i, j, e1, e2, n1, s.kept _ _ n1 h1⟩))
  · exact .inr (.inr (.inr ⟨rfl, a, rfl, n, s.kept _ _ n e⟩))
inductive DkAll (q : Addr) (K : PySem.W.Frag) (H : Hp) : List V → List PyData → Prop
  | nil : DkAll q K H [] []
  | cons {v : V} {vs : List V} {d : PyData} {ds : List PyData} : Dk q K H v d → DkAll q K H vs ds → DkAll q K H (v :: vs) (d :: ds)
theorem DkAll.mem {q : Addr} {K : PySem.W.Frag} {H : Hp} : ∀ {vs : List V} {ds : List PyData} {x : V}, DkAll q K H vs ds → x ∈ vs → ∃ d ∈ ds, Dk q K H x d
  | _, _, _, .nil, h => nomatch h
  | _, _, x, .cons h t, m => by
    cases m with
    | head => exact ⟨_, List.mem_cons_self .., h⟩
    | tail _ m =>
      obtain ⟨d, hd, z⟩ := DkAll.mem t m
      exact ⟨d, List.mem_cons_of_mem _ hd, z⟩
section
variable {X : Cx} {pins : List (Addr × Obj)} {σ : L2.St} {H : Hp} {s : Shared} {q : Addr}
theorem Dk.reads (I : L2.Inv X pins σ H s) {v : V} {u : Value} {d : PyData} (h : Dk q X.K H v d) (r : RelV v u) : ∃ as, Reads s.heap u d as ∧ sysModules ∉ as := by
  rcases h with ⟨n, h⟩ | ⟨a, b, i, j, rfl, rfl, n1, n2, m1, m2, h1, h2⟩ | ⟨a, i, j, rfl, rfl, n1, h1⟩ | ⟨rfl, a, rfl, n, e⟩
  · cases h with
    | non =>
      cases r
      exact ⟨_, Reads.none, fun z => nomatch z⟩
    | bl b =>
      cases r
      exact ⟨_, Reads.bool b, fun z => nomatch z⟩
    | int i =>
      obtain ⟨t, rfl⟩ := r
      exact ⟨_, Reads.int i t, fun z => nomatch z⟩
    | str x hx =>
      obtain ⟨t, rfl⟩ := r
      exact ⟨_, Reads.str x t, fun z => nomatch z⟩
    | lst _ _ _ => exact absurd n (by unfold leafD; exact Bool.false_ne_true)
    | dct _ _ => exact absurd n (by unfold leafD; exact Bool.false_ne_true)
    | tup _ _ _ => exact absurd n (by unfold leafD; exact Bool.false_ne_true)
  · cases (show u = Value.ref a from r)
    obtain ⟨_, its, n, rv, e1⟩ := (show ObjOk X.prog X.w H s.heap a (.lst [.int i, .ref b]) from I.hok a _ h1)
    obtain ⟨_, jts, m, rw', e2⟩ := (show ObjOk X.prog X.w H s.heap b (.lst [.int j]) from I.hok b _ h2)
    cases rv with
    | cons r1 rv =>
      cases rv with
      | cons r2 rv =>
        cases rv
        cases rw' with
        | cons r3 rw' =>
          cases rw'
          obtain ⟨t1, rfl⟩ := r1
          obtain ⟨t3, rfl⟩ := r3
          rename_i u2
          cases (show u2 = Value.ref b from r2)
          refine ⟨_, Reads.list e1 rfl rfl (ReadsAll.cons (Reads.int i t1) (ReadsAll.cons (Reads.list e2 rfl rfl (ReadsAll.cons (Reads.int j t3) ReadsAll.nil)) ReadsAll.nil)), fun z => ?_⟩
          cases z with
          | head => exact m1 rfl
          | tail _ z =>
            cases z with
            | head => exact m2 rfl
            | tail _ z => cases z
  · cases (show u = Value.ref a from r)
    obtain ⟨_, its, rv, o, ho, hc, m, hd⟩ := (show ObjOk X.prog X.w H s.heap a (.tup [.int i, .int j]) from I.hok a _ h1)
    cases rv with
    | cons r1 rv =>
      cases rv with
      | cons r2 rv =>
        cases rv
        obtain ⟨t1, rfl⟩ := r1
        obtain ⟨t2, rfl⟩ := r2
        exact ⟨_, Reads.tuple ho hc hd (ReadsAll.cons (Reads.int i t1) (ReadsAll.cons (Reads.int j t2) ReadsAll.nil)), fun z => nomatch z⟩
  · cases (show u = Value.ref a from r)
    obtain ⟨_, hs, vs, kv, o, es, ep, h3, h4, h5, _, h6, _⟩ := (show ObjOk X.prog X.w H s.heap a (.dK []) from I.hok a _ e)
    cases kv
    have e5 : es.toList = [] := by
      cases z : es.toList with
      | nil => rfl
      | cons y l =>
        rw [z] at h6
        cases h6
    refine ⟨[a], Reads.dict (kvs := []) (as := []) (bs := []) h3 h4.1 h5 ?_ ?_, fun z => ?_⟩
    · rw [e5]
      exact .nil
    · rw [e5]
      exact .nil
    · rw [List.mem_singleton] at z
      rw [← z] at hs
      simp at hs
theorem DkAll.reads (I : L2.Inv X pins σ H s) : ∀ {vs : List V} {us : List Value} {ds : List PyData}, DkAll q X.K H vs ds → Vals vs us → ∃ as, ReadsAll s.heap us ds as ∧ sysModules ∉ as
  | _, _, _, .nil, .nil => ⟨_, ReadsAll.nil, fun z => nomatch z⟩
  | _, _, _, .cons (d := d) (ds := ds) h t, .cons r1 r2 => by
    obtain ⟨as, a1, a2⟩ := Dk.reads I h r1
    obtain ⟨bs, b1, b2⟩ := DkAll.reads I t r2
    exact ⟨_, ReadsAll.cons a1 b1, fun z => (List.mem_append.mp z).elim a2 b2⟩
end
section
variable {X : Cx}
/-- repr(v) of a value of the menu -/
def rReprK (K : PySem.W.Frag) : List V → Hp → VK → Prop := fun xs H Q => ∃ (q : Addr) (v : V) (d : PyData), xs = [v] ∧ Dk q K H v d ∧ d.showable = true ∧ d.depth ≤ 60 ∧ d.shown.length ≤ sizeLine ∧ Q (.str d.shown) H
theorem call_reprK (hA : X.A.guards = some []) (hu : X.A.units + 64 < cLine) : CallR X (.builtin "repr") (rReprK X.K) := by
  intro pins s σ H xs us Q I r h
  obtain ⟨q, v, d, rfl, hd, hs, hdep, hz, q1⟩ := h
  obtain ⟨u, rfl, rx⟩ := vals1 r
  obtain ⟨as, rd, hsm⟩ := Dk.reads I hd rx
  have arm : ∀ a, v = .ref a → wpAny (model X.prog X.w) X.A (call (.builtin "repr") [u]) (EP X pins σ Q) X.xe s := by
    intro a e
    subst e
    cases (show u = Value.ref a from rx)
    refine repr_of_reads' rd hs (fun _ => hsm) hA (by omega) (fun b o e => e) ?_ hz
    intro h' u tk hk
    exact ⟨.str _, H, I.kept hk, ⟨u, rfl⟩, q1⟩
  rcases hd with ⟨n, hd⟩ | ⟨a, b, i, j, e1, e2, _⟩ | ⟨a, i, j, e1, e2, _⟩ | ⟨_, a, e, _⟩
  · cases hd with
    | non =>
      cases (show u = Value.none from rx)
      exact PySem.P.repr_of_none ⟨.str _, H, I.tok _, ⟨_, rfl⟩, q1⟩
    | bl b =>
      cases (show u = Value.bool b from rx)
      exact PySem.P.repr_of_bool ⟨.str _, H, I.tok _, ⟨_, rfl⟩, q1⟩
    | int i =>
      obtain ⟨t, rfl⟩ := (show ∃ t, u = Value.int i t from rx)
      exact PySem.P.repr_of_int (of_decide_eq_true hs) ⟨.str _, H, I.tok _, ⟨_, rfl⟩, q1⟩
    | str x hx =>
      obtain ⟨t, rfl⟩ := (show ∃ t, u = Value.str x t from rx)
      exact PySem.P.repr_of_str ⟨.str _, H, I.tok _, ⟨_, rfl⟩, q1⟩ hz
    | lst _ _ _ => exact arm _ rfl
    | dct _ _ => exact arm _ rfl
    | tup _ _ _ => exact arm _ rfl
  · exact arm a e2
  · exact arm a e2
  · exact arm a e
/-- repr of a list of such that was just laid -/
def rReprL (K : PySem.W.Frag) : List V → Hp → VK → Prop := fun xs H Q => ∃ (q p : Addr) (vs : List V) (ds : List PyData), xs = [.ref p] ∧ H p = some (.lst vs) ∧ p ≠ sysModules ∧ DkAll q K H vs ds ∧ (PyData.list ds).showable = true ∧ (PyData.list ds).depth ≤ 60 ∧ (PyData.list ds).shown.length ≤ sizeLine ∧ Q (.str (PyData.list ds).shown) H
theorem call_reprL (hA : X.A.guards = some []) (hu : X.A.units + 64 < cLine) : CallR X (.builtin "repr") (rReprL X.K) := by
  intro pins s σ H xs us Q I r h
  obtain ⟨q, p, vs, ds, rfl, hp, np, hd, hs, hdep, hz, q1⟩ := h
  obtain ⟨u, rfl, rx⟩ := vals1 r
  cases (show u = Value.ref p from rx)
  obtain ⟨_, its, n, rv, h1⟩ := (show ObjOk X.prog X.w H s.heap p (.lst vs) from I.hok p _ hp)
  obtain ⟨as, ra, hsm⟩ := DkAll.reads I hd rv
  refine repr_of_reads' (as := p :: as) (Reads.list h1 rfl rfl (by simpa using ra)) hs (fun _ m => ?_) hA (by omega) (fun b o e => e) ?_ hz
  · cases m with
    | head => exact np rfl
    | tail _ m => exact hsm m
  · intro h' u tk hk
    exact ⟨.str _, H, I.kept hk, ⟨u, rfl⟩, q1⟩
/-- [..]: the new list is no table of modules -/
def NewS (xs : List V) (H : Hp) (Q : VK) : Prop := xs.length ≤ sizeLine ∧ ∀ p, H p = none → p ≠ sysModules → Q (.ref p) (upd H p (.lst xs))
def tLstS (t : TA) : TE := fun σ H Q => t σ H fun xs H1 => NewS xs H1 Q
theorem pe_lstS {es : List Expr} {pos : Pos} {t : TA} (h : PA X es t) : PE X (.List es pos) (tLstS t) := by
  refine ⟨fun pins s σ H Q I hq => ?_⟩
  refine wpAny_List_spliced (thn (h.run pos pins s σ H _ I hq) fun us s1 ⟨xs, H1, I1, r, z, q⟩ => ⟨by rw [← r.length]; exact z, ?_⟩)
  have hf : H1 s1.heap.objs.size = none := I1.hok.fresh (Nat.le_refl _)
  refine ⟨.ref s1.heap.objs.size, upd H1 s1.heap.objs.size (.lst xs), I1.laid (t' := s1.toks) (fun b u e => Heap.get?_push_of_some _ e) (Nat.le_refl _) ?_, rfl, q _ hf (Ne.symm (Nat.ne_of_lt I1.big))⟩
  exact ⟨z, us, 0, r, Heap.get?_push_size _ rfl⟩
theorem g_newS {xs : List V} {H : Hp} {Q : VK} (hl : xs.length ≤ sizeLine) (q : ∀ p H2, H p = none → p ≠ sysModules → Same H H2 → H2 p = some (.lst xs) → Q (.ref p) H2) : NewS xs H Q :=
  ⟨hl, fun p hp np => q p _ hp np (same_new hp) upd_same⟩
theorem g_dnew {H : Hp} {σ : L2.St} {Q : VK} (q : ∀ p H2, H p = none → Same H H2 → H2 p = some (.dK []) → Q (.ref p) H2) : tDNewK σ H Q := fun p hp => q p _ hp (same_new hp) upd_same
end
end Mf
namespace Mf
open PySem PySem.Spec PySem.Calls PyProof.Rows L2
section
variable {K : PySem.W.Frag} {σ : L2.St} {H : Hp} {Q : VK} {te : TE} {t : TA} {f : Str} {c : Cn} {C : Addr} {fs : List Str}
theorem g_lstS (q : t σ H fun xs H1 => NewS xs H1 Q) : tLstS t σ H Q := q
def XAt (K : PySem.W.Frag) (f : Str) (x : V) (H1 : Hp) (Q : VK) : Prop := ∃ (a C : Addr) (fs : List (Str × V)) (v : V), x = .ref a ∧ Erc K C ∧ PySem.W.findIn K (.ref C) f = some none ∧ Er H1 a C fs ∧ fs.lookup f = some v ∧ Q v H1
theorem g_xat (q : te σ H fun x H1 => XAt K f x H1 Q) : tXat K f te σ H Q := q
def MkX (C : Addr) (fs : List Str) (vs : List V) (H1 : Hp) (Q : VK) : Prop := vs.length = fs.length ∧ ∀ a H2, H1 a = none → Same H1 H2 → Er H2 a C (fs.zip vs).reverse → Q (.ref a) H2
def MkXk (C : Addr) (fs : List Str) (vs : List V) (H1 : Hp) (Q : VK) : Prop := vs.length = fs.length ∧ ∀ a H2, H1 a = none → Same H1 H2 → Er H2 a C (fs.zip vs.reverse).reverse → Q (.ref a) H2
theorem g_mkX (q : t σ H fun vs H1 => MkX C fs vs H1 Q) : tMkX c C fs t σ H Q := q
theorem g_mkXk (q : t σ H fun vs H1 => MkXk C fs vs H1 Q) : tMkXk c C fs t σ H Q := q
end
section
variable {K : PySem.W.Frag} {σ : L2.St} {H : Hp} {Q : VK}
/-- a statement whose end is told apart -/
theorem g_seqJ {s1 s2 : TS} {D : Ends} (Pv : L2.St → Hp → Prop) (h1 : ∀ nx : L2.St → Hp → Prop, (∀ σ H, Pv σ H → nx σ H) → s1 ⟨nx, D.rt, D.bk, D.ct⟩ σ H) (h2 : ∀ σ H, Pv σ H → s2 D σ H) : tSeq s1 s2 D σ H := h1 _ h2
end
/-- errors of a part, one class behind another from C i on -/
inductive ErL (C : Nat → Addr) (v : V) (H : Hp) : Nat → List V → Prop
  | nil (i : Nat) : ErL C v H i []
  | cons {i : Nat} {a : Addr} {l : List V} : Er H a (C i) [("part", v)] → ErL C v H (i + 1) l → ErL C v H i (.ref a :: l)
theorem ErL.go {C : Nat → Addr} {v : V} {H H' : Hp} (s : Same H H') : ∀ {l : List V} {i : Nat}, ErL C v H i l → ErL C v H' i l
  | _, _, .nil i => .nil i
  | _, _, .cons e t => .cons (e.go s) (t.go s)
theorem ErL.at {C : Nat → Addr} {v : V} {H : Hp} : ∀ {l : List V} {i k : Nat} {x : V}, ErL C v H i l → l[k]? = some x → ∃ a, x = .ref a ∧ Er H a (C (i + k)) [("part", v)]
  | _, i, k, x, .nil _, h => by cases k <;> cases h
  | _, i, 0, x, .cons (a := a) e t, h => by
    cases h
    exact ⟨a, rfl, e⟩
  | _, i, k + 1, x, .cons e t, h => by
    obtain ⟨a, e1, e2⟩ := ErL.at t (k := k) h
    refine ⟨a, e1, ?_⟩
    rw [show i + (k + 1) = i + 1 + k by omega]
    exact e2
/-- errors as they are drawn and raised: caught as C's base -/
theorem exm_of {K : PySem.W.Frag} {C F : Addr} (h : ClsAt K C (.ref F :: veT)) (g : ClsAt K F veT) : PySem.W.exmOne K (.ref C) (.ref F) = some true := by
  refine PySem.W.exm_ref ?_ g.hd g.ty ?_
  · show PySem.W.mroIn K F (.type "BaseException") = some true
    rw [g.mro]
    rfl
  · show PySem.W.mroIn K C (.ref F) = some true
    rw [h.mro, List.contains_cons, List.contains_cons, beq_self_eq_true, Bool.true_or, Bool.or_true]
end Mf
/-! defs that raise, where the guards are known -/
namespace Mf
open PySem PySem.Spec PyProof.Rows L2
section
variable {P : Program} {w : World} {K : PySem.W.Frag} {mg : Str → Option Value} {base : Heap}
theorem okGX {x qual : Str} {st : Stmt} {f : Addr} {fd : FuncData} {N ps : List Str} {k : Nat} {sp : Sp} (F : Fun K x qual st f fd) (S : FnScope N ps (defScope st))
    (len : ∀ vs H Q E, sp vs H Q E → vs.length = ps.length)
    (hbody : ∀ (cdv : Value) (A : Around) (outer : List Env) (s : Shared) (H : Hp) (vs : List V) (Q : VK) (E : XK),
      (A.deeper (envOfC qual (defScope st) s.heap.objs.size f cdv)).guards = some [] →
      Room k (A.deeper (envOfC qual (defScope st) s.heap.objs.size f cdv)) → sp vs H Q E →
      ∃ t, PSs (cxOf (L2.CX P w) P w K mg base N qual (defScope st) f cdv A outer s H E) (defBody st) t ∧
        t { nx := fun _ H' => Q .non H', rt := Q } (start N vs) H) :
    FnG P w K mg base (L2.CX P w) (k + 1) f fd ps sp := by
  obtain ⟨oc, od, kV, doc, pm, an, cdv, ct, osl, rfl, lk, hcd⟩ := F.ex
  refine ⟨len, ?_⟩
  intro A hA outer s H args us vs Q E hr e0 hb r hsp
  have KX : K.In s.heap := e0.mod.kin.keeps fun b o e => (e0.bs b o e).1
  have lim : s.heap.NoLimit := e0.mod.nolimit.keeps fun b o e => (e0.bs b o e).1
  have hl := len _ _ _ _ hsp
  have kinds : ∀ y ∈ ps.zip us, (defScope st).names.lookup y.1 = some .local ∨
      ((defScope st).names.lookup y.1 = some .cell ∧ ((cellsFrom (s.heap.objs.size + 1) (defScope st).names []).lookup y.1).isSome = true) := by
    intro y hy
    obtain ⟨n, v⟩ := y
    cases S.par n (List.of_mem_zip hy).1 with
    | inl q => exact Or.inl q
    | inr q => exact Or.inr ⟨q, PySem.W.cellsFrom_some _ _ _ (.inl q)⟩
  refine codeAny_call_function hr.depth (KX _ _ lk) rfl S.co S.gen rfl (PySem.W.codeRec_of KX hcd) (hb _ _ _ _ ?_)
  refine wpAny_newFunctionEnv_cells S.kind kinds ?_
  intro env he s1 x
  subst he
  refine ⟨lim.keeps x.toInCall.keep, codeAny_func ?_⟩
  have hAg : (A.deeper (envOfC qual (defScope st) s.heap.objs.size f cdv)).guards = some [] := hA
  obtain ⟨t, ht, hq⟩ := hbody cdv A outer s H vs Q E hAg (hr.deeper _) hsp
  have I := inv_start (CX := L2.CX P w) (mg := mg) (base := base) (N := N) (qual := qual) (f := f) (cd := cdv) (E := E) S hr.hd e0 hl r x
  refine wpAny_mono (ht.run [] s1 (start N vs) H _ I hq) ?_ (fun e s' hs => hs)
  intro fl s' hs
  cases fl with
  | ret u =>
    obtain ⟨v, σ', H', J, rv, q⟩ := hs
    exact ⟨v, H', J.os, J.bare, J.base, J.hok, rv, q⟩
  | next =>
    obtain ⟨σ', H', J, q⟩ := hs
    exact ⟨V.non, H', J.os, J.bare, J.base, J.hok, (rfl : Value.none = Value.none), q⟩
  | brk => obtain ⟨_, _, _, q⟩ := hs; exact False.elim q
  | cont => obtain ⟨_, _, _, q⟩ := hs; exact False.elim q
end
section
variable {X : Cx} {CX : CXT} {k : Nat} {f : Addr} {fd : FuncData} {ps : List Str} {sp : Sp} {E : L2.St → XK} {x : Str} {p pos : Pos} {e : Expr} {es : List Expr} {t : TA}
theorem run_fnGS {pins : List (Addr × Obj)} {σ : L2.St} {H : Hp} {s : Shared} {Q : VK} {us : List Value} {vs : List V} (F : FnG X.prog X.w X.K X.mg X.base CX k f fd ps sp) (hA : X.A.guards = some []) (hr : Room k X.A) (hb : Binds X.K fd ps []) (hx : PassesAt CX X σ (E σ))
    (I : Inv X pins σ H s) (r : Vals vs us) (h : sp vs H Q (E σ)) : wpAny (model X.prog X.w) X.A (call (.ref f) us) (EP X pins σ Q) X.xe s := by
  have hl : us.length = ps.length := by rw [← r.length]; exact F.size _ _ _ _ h
  have b := hb s us I.kIn (by rw [List.append_nil]; exact hl)
  rw [List.append_nil] at b
  refine wpAny_call (codeAny_mono (F.go X.A hA X.stack s H ⟨us, []⟩ us vs Q (E σ) hr I.env0 b r h) fun r s' hq => ?_)
  cases r with
  | error e => exact hx pins H s e s' I hq
  | ok fl => cases fl with
    | ret u => exact I.after hq
    | next => exact hq.elim
    | brk => exact hq.elim
    | cont => exact hq.elim
/-- f(e, ..), which may raise, where the guards are known -/
theorem pe_callGS (F : FnG X.prog X.w X.K X.mg X.base CX k f fd ps sp) (hA : X.A.guards = some []) (hr : Room k X.A) (hg : Gl X x) (hm : X.mg x = some (.ref f)) (hk : PySem.W.keepIn X.K (.ref f) = true) (hb : Binds X.K fd ps []) (hx : ∀ σ, PassesAt CX X σ (E σ))
    (ha : PA X (e :: es) t) (hdb : (x == ("__debug__" : Str)) = false := by decide) (he : starEach (e :: es) X.env = (false, eval e X.env) :: starEach es X.env := by rfl) (hpl : (backTo pos (starEach es X.env)).any (·.1) = false := by rfl) :
    PE X (.Call (.Name x p) (e :: es) [] pos) (tCallS sp E t) := by
  refine ⟨fun pins s σ H Q I h => ?_⟩
  refine wpAny_Call_Name_kw (ld_glob I hg hm ?_ hdb)
  refine PySem.W.callWith_K (h₀ := X.base) I.ok.mod.kin hk (thn (ha.run pos pins s σ H _ I h) fun us s1 ⟨vs, H1, I1, r, q⟩ => ⟨I1.kIn, ?_⟩) he hpl
  exact run_fnGS F hA hr hb (hx σ) I1 r q
end
end Mf
/-! a for over enumerate(e), e a tuple -/
namespace Mf
open PySem PySem.Spec PyProof.Rows L2
theorem enumT_new (l : Addr) (its : Array Value) : Meets (Builtin.«enumerate.__new__» ⟨[.type "enumerate", .ref l], []⟩) (fun _ R s => s.heap.IsTuple l its ∧
    R (.ok (.ret (.ref (s.heap.push { cls := .type "tuple_iterator", data := .fields #[.ref l, .int 0 0] }).objs.size)))
      { s with heap := (s.heap.push { cls := .type "tuple_iterator", data := .fields #[.ref l, .int 0 0] }).push { cls := .type "enumerate", data := .fields #[.none, .bool false, .ref s.heap.objs.size, rawInt 0, .none, .none] } }) :=
  .of_wp fun pg w A R s k => by
    obtain ⟨hp, g, d, tk, os⟩ := s
    obtain ⟨kT, k⟩ := k
    have hsub := sub_enumerate
    have qT : ∀ {A' : Around} {E : Value → Shared → Prop} {Q : Value → Shared → Prop}, Q (.ref hp.objs.size) ⟨hp.push { cls := .type "tuple_iterator", data := .fields #[.ref l, .int 0 0] }, g, d, tk, os⟩ → wpAny (model pg w) A' (pyIter (.ref l)) Q E ⟨hp, g, d, tk, os⟩ :=
      fun q => (begins_tuple l its).iter pg w _ _ ⟨hp, g, d, tk, os⟩ _ kT q
    have kT' : Heap.IsTuple (Shared.heap ⟨hp, g, d, tk, os⟩) l its := kT
    obtain ⟨ol, kl, kc, n, kd⟩ := kT'
    have kl' : (Shared.heap ⟨hp, g, d, tk, os⟩).get? l = some ol := kl
    wp_walk using qT
    refine wpAny_stack_any fun st => wpAny_pure ?_
    split
    · rename_i c _ _ _ _ _
      cases (c == Value.type "enumerate")
      · wp_walk using qT
        exact ⟨_, rfl, k⟩
      · wp_walk using qT
        exact ⟨_, rfl, k⟩
    · wp_walk using qT
      exact ⟨_, rfl, k⟩
theorem enumT_call {pg : Program} {w : World} {A : Around} {E : Value → Shared → Prop} {s : Shared} {l : Addr} {its : Array Value} {Q : Value → Shared → Prop} (kT : s.heap.IsTuple l its)
    (k : ∀ h', IsEnum h' (s.heap.objs.size + 1) s.heap.objs.size 0 .none → h'.IsTupleIter s.heap.objs.size l 0 → (∀ b o, s.heap.get? b = some o → h'.get? b = some o) → Q (.ref (s.heap.objs.size + 1)) { s with heap := h' }) :
    wpAny (model pg w) A (call (.type "enumerate") [.ref l]) Q E s := by
  refine callType_new F.called_enumerate (by decide) (F.typeCall_enumerate_1 _) (F.newCall_enumerate_1 _) (fun obj => F.args_object_init_2 obj _) F.entry_enumerate_new (enumT_new l its) ⟨kT, ?_⟩
  have hz : (s.heap.push { cls := .type "tuple_iterator", data := .fields #[.ref l, .int 0 0] }).objs.size = s.heap.objs.size + 1 := Heap.size_push ..
  show _ ∧ _
  rw [hz]
  have he : IsEnum ((s.heap.push { cls := .type "tuple_iterator", data := .fields #[.ref l, .int 0 0] }).push { cls := .type "enumerate", data := .fields #[.none, .bool false, .ref s.heap.objs.size, rawInt 0, .none, .none] })
      (s.heap.objs.size + 1) s.heap.objs.size 0 .none := by
    have := Heap.get?_push_size (s.heap.push { cls := .type "tuple_iterator", data := .fields #[.ref l, .int 0 0] }) (o := { cls := .type "enumerate", data := .fields #[.none, .bool false, .ref s.heap.objs.size, rawInt 0, .none, .none] }) rfl
    rw [hz] at this
    exact this
  exact ⟨⟨_, he, rfl⟩, k _ he ⟨_, Heap.get?_push_of_some _ (Heap.get?_push_size _ rfl), rfl, rfl⟩ fun b o x => Heap.get?_push_of_some _ (Heap.get?_push_of_some _ x)⟩
/-- the tuple at a, each item in a new pair -/
def IteT (K : PySem.W.Frag) (a : Addr) : It :=
  ⟨fun i H => ∃ (xs : List V) (x : V), SqT K H a xs ∧ xs[i]? = some x, fun i H v H' => ∃ T x, v = .ref T ∧ H T = none ∧ H' = upd H T (.tup [.int (i : Nat), x]) ∧ ∀ xs, SqT K H a xs → xs[i]? = some x,
    fun i H => ∃ xs : List V, SqT K H a xs ∧ xs.length ≤ i⟩
theorem enumT_turn {P : Program} {w : World} {K : PySem.W.Frag} {elts : List Expr} {kk : Nat} {tpos : Pos} (a e it : Addr) :
    Turn P w K (.Tuple elts kk tpos) (IteT K a) [e, it] e (fun i h => (∃ old, IsEnum h e it ((i : Nat) : Int) old) ∧ h.IsTupleIter it a i ∧ e ≠ it) where
  mem := by simp
  obj := fun i h st b hb => by
    obtain ⟨⟨old, he⟩, ⟨o, ho, hc, hd⟩, _⟩ := st
    have e' : b = e ∨ b = it := by simpa using hb
    rcases e' with z | z
    · rw [z]; exact ⟨_, he, fun v q => nomatch q⟩
    · rw [z]; exact ⟨o, ho, fun v q => by rw [hd] at q; cases q⟩
  keep := fun i h h' st k => let ⟨⟨old, he⟩, hi, hne⟩ := st; ⟨⟨old, k e (by simp) _ he⟩, hi.at fun o q => k it (by simp) o q, hne⟩
  item := by
    intro X hP hw hK hc i pins s σ H E I hf st hg
    subst hP hw hK
    obtain ⟨⟨old, he⟩, hit, hne⟩ := st
    obtain ⟨xs, x, hq, hx⟩ := hg
    obtain ⟨its, rv, p, hz⟩ := I.tuple hq
    obtain ⟨u, hu, ru⟩ := rv.get hx
    have pT : s.heap.IsTuple a its.toArray := p
    have hel : e < s.heap.objs.size := Heap.lt_size he
    have hil : it < s.heap.objs.size := by obtain ⟨_, q, _⟩ := hit; exact Heap.lt_size q
    have nat : a ≠ it := fun z => by
      obtain ⟨o1, q1, c1, _⟩ := pT
      obtain ⟨o2, q2, c2, _⟩ := hit
      rw [z, q2] at q1
      cases q1
      rw [c1] at c2
      exact absurd c2 (by decide)
    have nae : a ≠ e := fun z => by
      obtain ⟨o1, q1, c1, _⟩ := pT
      rw [z, he] at q1
      cases q1
      have c2 : Value.type "enumerate" = Value.type "tuple" := c1
      exact absurd c2 (by decide)
    have hi2 : i < its.toArray.size := by
      have : i < its.length := (List.getElem?_eq_some_iff.mp hu).1
      simpa using this
    refine wpAny_pyNext_enum_itemD (Draws.tuple (show X.A.in1.handled = none from I.ok.hd hc) it a nat its.toArray) he ⟨hit, pT⟩ hi2 hne (fun z => by
      rcases List.mem_cons.mp z with z | z
      · exact hne z
      · exact nae (List.mem_singleton.mp z).symm) fun x2 h' tk hP2 ho hst hT hsz hk => ?_
    obtain ⟨hit', _⟩ := hst
    obtain rfl : x2 = u := by
      have z : its.toArray[i]? = some x2 := hP2
      rw [show its.toArray[i]? = some u by simpa using hu] at z
      exact (Option.some.inj z).symm
    refine ⟨_, rfl, wpAny_letOwnedTupleGo_enum (s := { s with heap := h', toks := tk + 1 }) ho fun h'' he' sb => ?_⟩
    have hT2 : h''.get? s.heap.objs.size = some { cls := .type "tuple", data := .seq #[.int i tk, x2] } := (sb.2 _ (Nat.ne_of_gt hel)).trans hT
    have new : ObjOk X.prog X.w (upd H s.heap.objs.size (.tup [.int (i : Nat), x])) h'' s.heap.objs.size (.tup [.int (i : Nat), x]) :=
      ⟨by show 2 ≤ sizeLine; decide, [.int i tk, x2], .cons ⟨_, rfl⟩ (.cons ru .nil), ⟨_, hT2, rfl, _, rfl⟩⟩
    have I1 : Inv X pins σ (upd H s.heap.objs.size (.tup [.int (i : Nat), x])) { s with heap := h'', toks := tk + 1 } :=
      I.turnedNew (ch := [e, it]) (fun b ob hb q => (sb.2 b (fun z => hb (by simp [z]))).trans (hk b ob (fun z => hb (by simp [z])) (fun z => hb (by simp [z])) q)) hf (Nat.le_refl _) new
    refine ⟨.ref s.heap.objs.size, _, I1, rfl, ⟨_, x, rfl, I.hok.fresh (Nat.le_refl _), rfl, fun ys hy => by rw [I.tuple_inj hy hq]; exact hx⟩, ⟨⟨x2, ?_⟩, hit'.at fun o q => (sb.2 it (Ne.symm hne)).trans q, hne⟩, fun b hb => ?_⟩
    · have e1 : ((i + 1 : Nat) : Int) = (i : Int) + 1 := by omega
      rw [e1]; exact he'
    · have hb' : b < s.heap.objs.size := by
        have e' : b = e ∨ b = it := by simpa using hb
        rcases e' with z | z
        · rw [z]; exact hel
        · rw [z]; exact hil
      rw [upd_ne (Nat.ne_of_lt hb')]
      exact (hf b hb).1
  done := by
    intro X hP hw hK hc i pins s σ H E I hf st hg
    subst hP hw hK
    obtain ⟨⟨old, he⟩, hit, hne⟩ := st
    obtain ⟨xs, hq, hx⟩ := hg
    obtain ⟨its, rv, p, hz⟩ := I.tuple hq
    obtain ⟨f0, f1, f2, f3, f4, f5⟩ := hf it (by simp)
    have hl := rv.length
    have pT : s.heap.IsTuple a its.toArray := p
    have nat : a ≠ it := fun z => by
      obtain ⟨o1, q1, c1, _⟩ := pT
      obtain ⟨o2, q2, c2, _⟩ := hit
      rw [z, q2] at q1
      cases q1
      rw [c1] at c2
      exact absurd c2 (by decide)
    unfold pyNext
    have hT : s.TypeIs (.ref e) "enumerate" := ⟨_, he, rfl⟩
    refine wpAny_bind (wpAny_attempt (wpAny_callSpecial?_slot (name := Str.ofString "__next__") hT F.slot_enumerate_next
      (wpAny_call_entry F.slot_enumerate_next hT F.entry_enumerate_next ?_ (F.args_enumerate_next_1 _))))
    show wpAny _ _ (field (.ref e) 2 >>= _) _ _ _
    refine wpAny_bind (wpAny_field he rfl (x := .ref it) rfl ?_)
    refine wpAny_bind (wpAny_nextOf_tuple_end (show X.A.in1.handled = none from I.ok.hd hc) hit pT (by simp; omega) fun h' x he' hx' => ?_)
    obtain ⟨o, ho, hcx⟩ := hx'
    refine wpAny_bind (wpAny_isInstance (T := "StopIteration") (b := true) ⟨o, ho, hcx⟩ isSubtype_stop ?_)
    exact wpAny_pure ⟨rfl, I.turned (t' := s.toks) (fun b o hb q => he' b o hb q) f0 f1 f3 f4 f5⟩
  self := fun A i s Q E st h => let ⟨⟨_, he⟩, _⟩ := st; wpAny_pyIter_enum he h
def iEnumT (K : PySem.W.Frag) (ta : TA) : TI := fun σ H R => ta σ H fun vs H1 => ∃ a xs, vs = [.ref a] ∧ SqT K H1 a xs ∧ R (IteT K a) H1
theorem pi_enumT {X : Cx} {e : Expr} {ta : TA} {p pos tpos : Pos} {elts : List Expr} {kk : Nat} (hg : Gl X "enumerate") (hm : X.mg "enumerate" = none) (ha : PA X [e] ta) (hs : starEach [e] X.env = [(false, eval e X.env)] := by rfl) :
    PI X (.Tuple elts kk tpos) (.Call (.Name "enumerate" p) [e] [] pos) (iEnumT X.K ta) := by
  refine ⟨fun pins s σ H R I h => ?_⟩
  refine Call_ (ld_blt I hg hm boot_enumerate (PyProof.Rows.callWith_type1 (thn (ha.run pos pins s σ H _ I h) fun us s1 ⟨vs, H1, I1, r1, q1⟩ => ?_) hs rfl))
  obtain ⟨a, xs, ex, hq, q⟩ := q1
  subst ex
  cases r1 with
  | cons r rr =>
    cases rr
    cases r
    obtain ⟨its, rv, p', hz⟩ := I1.tuple hq
    refine enumT_call (show s1.heap.IsTuple a its.toArray from p') fun h' he hit hk => wpAny_pyIter_enum he ?_
    have I2 : Inv X pins σ H1 { s1 with heap := h' } := I1.kept (t' := s1.toks) hk
    refine ⟨s1.heap.objs.size + 1, [s1.heap.objs.size + 1, s1.heap.objs.size], _, _, H1, rfl, I2, enumT_turn a (s1.heap.objs.size + 1) s1.heap.objs.size, ⟨⟨.none, he⟩, hit, Nat.succ_ne_self _⟩, fun b hb => ?_, q⟩
    have e' : b = s1.heap.objs.size + 1 ∨ b = s1.heap.objs.size := by simpa using hb
    have hle : s1.heap.objs.size ≤ b := by
      rcases e' with z | z
      · rw [z]; exact Nat.le_add_right _ _
      · rw [z]; exact Nat.le_refl _
    exact I1.fpOk hle (I1.hok.fresh hle)
end Mf
namespace Mf
/-! ### polynomials as lists of fractions: the mathematics -/
def co (l : List Rat) (i : Nat) : Rat := l.getD i 0
theorem co_ge {l : List Rat} {i : Nat} (h : l.length ≤ i) : co l i = 0 := by
  unfold co
  rw [List.getD_eq_getElem?_getD, List.getElem?_eq_none h]
  rfl
theorem co_get {l : List Rat} {i : Nat} (h : i < l.length) : co l i = l[i] := by
  unfold co
  rw [List.getD_eq_getElem?_getD, List.getElem?_eq_getElem h]
  rfl
theorem co_some {l : List Rat} {i : Nat} {r : Rat} (h : l[i]? = some r) : co l i = r := by
  unfold co
  rw [List.getD_eq_getElem?_getD, h]
  rfl
theorem co_set {l : List Rat} {k n : Nat} {x : Rat} (h : k < l.length) : co (l.set k x) n = if n = k then x else co l n := by
  unfold co
  rw [List.getD_eq_getElem?_getD, List.getD_eq_getElem?_getD, List.getElem?_set]
  by_cases e : k = n
  · subst e
    rw [if_pos rfl, if_pos rfl, if_pos h]
    rfl
  · rw [if_neg e, if_neg (fun z => e z.symm)]
theorem co_take {l : List Rat} {k n : Nat} (h : n < k) : co (l.take k) n = co l n := by
  unfold co
  rw [List.getD_eq_getElem?_getD, List.getD_eq_getElem?_getD, List.getElem?_take, if_pos h]
theorem co_take' {l : List Rat} {k n : Nat} (h : k ≤ n) : co (l.take k) n = 0 := co_ge (by rw [List.length_take]; omega)
theorem co_append {l m : List Rat} {n : Nat} : co (l ++ m) n = if n < l.length then co l n else co m (n - l.length) := by
  unfold co
  simp only [List.getD_eq_getElem?_getD, List.getElem?_append]
  split <;> rfl
theorem co_nil {n : Nat} : co [] n = 0 := co_ge (Nat.zero_le _)
theorem co_map {f : Nat → Rat} {m n : Nat} (h : n < m) : co ((List.range m).map f) n = f n := by
  rw [co_get (by simpa using h)]
  simp
theorem ext_co {a b : List Rat} (hl : a.length = b.length) (h : ∀ i, co a i = co b i) : a = b := by
  refine List.ext_getElem hl fun i h1 h2 => ?_
  have := h i
  rw [co_get h1, co_get h2] at this
  exact this
/-- how long it is without zeros at its end, looked at up to n -/
def tlen (l : List Rat) : Nat → Nat
  | 0 => 0
  | n + 1 => if co l n = 0 then tlen l n else n + 1
def trimR (l : List Rat) : List Rat := l.take (tlen l l.length)
theorem tlen_le (l : List Rat) : ∀ n, tlen l n ≤ n
  | 0 => Nat.le_refl _
  | n + 1 => by
    unfold tlen
    split
    · exact Nat.le_succ_of_le (tlen_le l n)
    · exact Nat.le_refl _
theorem tlen_zero (l : List Rat) : ∀ n i, tlen l n ≤ i → i < n → co l i = 0
  | 0, i, _, h => absurd h (Nat.not_lt_zero _)
  | n + 1, i, h, h2 => by
    unfold tlen at h
    split at h
    · rename_i e
      by_cases z : i = n
      · rw [z]; exact e
      · exact tlen_zero l n i h (by omega)
    · omega
theorem tlen_last (l : List Rat) : ∀ n, tlen l n ≠ 0 → co l (tlen l n - 1) ≠ 0
  | 0, h => absurd rfl h
  | n + 1, h => by
    unfold tlen at h ⊢
    by_cases e : co l n = 0
    · rw [if_pos e] at h ⊢
      exact tlen_last l n h
    · rw [if_neg e]
      exact e
theorem len_trim (l : List Rat) : (trimR l).length = tlen l l.length := by
  unfold trimR
  rw [List.length_take]
  have := tlen_le l l.length
  omega
theorem len_trim_le (l : List Rat) : (trimR l).length ≤ l.length := by
  rw [len_trim]
  exact tlen_le _ _
theorem co_trim (l : List Rat) (i : Nat) : co (trimR l) i = co l i := by
  by_cases h : i < tlen l l.length
  · exact co_take h
  · rw [show co (trimR l) i = 0 from co_take' (by omega)]
    by_cases h2 : i < l.length
    · exact (tlen_zero l l.length i (by omega) h2).symm
    · exact (co_ge (by omega)).symm
/-- no zero at the end -/
def Tr (l : List Rat) : Prop := l ≠ [] → co l (l.length - 1) ≠ 0
theorem tr_trim (l : List Rat) : Tr (trimR l) := by
  intro h
  rw [co_trim, len_trim]
  refine tlen_last l _ fun z => h ?_
  refine List.length_eq_zero_iff.mp ?_
  rw [len_trim, z]
theorem Tr.le {a b : List Rat} (ha : Tr a) (h : ∀ i, co a i = co b i) : a.length ≤ b.length := by
  by_cases e : a = []
  · rw [e]; exact Nat.zero_le _
  · have h1 := ha e
    rw [h] at h1
    have h2 : 0 < a.length := List.length_pos_iff.mpr e
    by_cases z : a.length - 1 < b.length
    · omega
    · exact absurd (co_ge (by omega)) h1
theorem Tr.ext {a b : List Rat} (ha : Tr a) (hb : Tr b) (h : ∀ i, co a i = co b i) : a = b :=
  ext_co (Nat.le_antisymm (ha.le h) (hb.le fun i => (h i).symm)) h
theorem Tr.trim {a : List Rat} (ha : Tr a) : trimR a = a := (tr_trim a).ext ha (co_trim a)
theorem trim_eq {a b : List Rat} (h : ∀ i, co a i = co b i) : trimR a = trimR b := (tr_trim a).ext (tr_trim b) fun i => by rw [co_trim, co_trim, h]
theorem mem_trim {l : List Rat} {r : Rat} (h : r ∈ trimR l) : r ∈ l := List.mem_of_mem_take h
/-- sums of products: i of them -/
def cs (a b : Nat → Rat) : Nat → Nat → Rat
  | 0, _ => 0
  | i + 1, n => cs a b i n + (if i ≤ n then a i * b (n - i) else 0)
theorem cs_succ (a b : Nat → Rat) (i n : Nat) : cs a b (i + 1) n = cs a b i n + (if i ≤ n then a i * b (n - i) else 0) := rfl
theorem cs_stop (a b : Nat → Rat) {m n : Nat} (h : ∀ k, m ≤ k → k ≤ n → a k * b (n - k) = 0) : ∀ i, m ≤ i → cs a b i n = cs a b m n
  | 0, hi => by
    have : m = 0 := by omega
    rw [this]
  | i + 1, hi => by
    by_cases e : m = i + 1
    · rw [e]
    · rw [cs_succ, cs_stop a b h i (by omega)]
      split
      · rename_i z
        rw [h i (by omega) z, Rat.add_zero]
      · rw [Rat.add_zero]
/-- a number of a product -/
def pc (a b : Nat → Rat) (n : Nat) : Rat := cs a b (n + 1) n
theorem cs_pc (a b : Nat → Rat) (n m : Nat) (h : ∀ k, m ≤ k → a k = 0) : cs a b m n = pc a b n := by
  have z : ∀ k, m ≤ k → k ≤ n → a k * b (n - k) = 0 := fun k h1 _ => by rw [h k h1, Rat.zero_mul]
  have z2 : ∀ k, n + 1 ≤ k → k ≤ n → a k * b (n - k) = 0 := fun k h1 h2 => by omega
  unfold pc
  by_cases e : m ≤ n + 1
  · rw [cs_stop a b z (n + 1) e]
  · rw [cs_stop a b z2 m (by omega)]
theorem cs_co (a : List Rat) (b : Nat → Rat) (n : Nat) : cs (co a) b a.length n = pc (co a) b n := cs_pc _ _ _ _ fun k h => co_ge h
theorem pc_congr {a a' b b' : Nat → Rat} (h1 : ∀ i, a i = a' i) (h2 : ∀ i, b i = b' i) (n : Nat) : pc a b n = pc a' b' n := by
  rw [funext h1, funext h2]
theorem pc_zero {a b : List Rat} {n : Nat} (h : a.length + b.length - 1 ≤ n) : pc (co a) (co b) n = 0 := by
  have key : ∀ i, cs (co a) (co b) i n = 0 := by
    intro i
    induction i with
    | zero => rfl
    | succ i ih =>
      unfold cs
      rw [ih, Rat.zero_add]
      split
      · by_cases e : a.length ≤ i
        · rw [co_ge e, Rat.zero_mul]
        · rw [co_ge (l := b) (by omega), Rat.mul_zero]
      · rfl
  exact key _
theorem cs_add_left (a a' b : Nat → Rat) (n : Nat) : ∀ i, cs (fun k => a k + a' k) b i n = cs a b i n + cs a' b i n
  | 0 => by show (0 : Rat) = 0 + 0; rw [Rat.add_zero]
  | i + 1 => by
    unfold cs
    rw [cs_add_left a a' b n i]
    split <;> grind
theorem pc_sub_left (a a' b : Nat → Rat) (n : Nat) : pc (fun k => a k - a' k) b n = pc a b n - pc a' b n := by
  have key : ∀ i, cs (fun k => a k - a' k) b i n = cs a b i n - cs a' b i n := by
    intro i
    induction i with
    | zero => show (0 : Rat) = 0 - 0; grind
    | succ i ih =>
      unfold cs
      rw [ih]
      split <;> grind
  exact key _
/-- one number of the first one is put in -/
theorem pc_set {a a' b : Nat → Rat} {s : Nat} {x : Rat} (h0 : a s = 0) (h1 : a' s = x) (h2 : ∀ k, k ≠ s → a' k = a k) (n : Nat) : pc a' b n = pc a b n + (if s ≤ n then x * b (n - s) else 0) := by
  have key : ∀ i, cs a' b i n = cs a b i n + (if s < i then (if s ≤ n then x * b (n - s) else 0) else 0) := by
    intro i
    induction i with
    | zero => show (0 : Rat) = 0 + _; rw [if_neg (Nat.not_lt_zero _)]; grind
    | succ i ih =>
      rw [cs_succ, cs_succ, ih]
      by_cases e : i = s
      · subst e
        rw [h1, h0, if_neg (Nat.lt_irrefl i), if_pos (Nat.lt_succ_self i)]
        split <;> grind
      · rw [h2 i e]
        by_cases z : s < i
        · have z2 : s < i + 1 := by omega
          simp only [if_pos z, if_pos z2]
          split <;> split <;> grind
        · have z2 : ¬ s < i + 1 := by omega
          simp only [if_neg z, if_neg z2]
          split <;> grind
  unfold pc
  rw [key]
  by_cases e : s ≤ n
  · rw [if_pos (by omega)]
  · rw [if_neg e, if_neg (by omega : ¬ s < n + 1)]
/-- the product -/
def conv (a b : List Rat) : List Rat := (List.range (a.length + b.length - 1)).map (pc (co a) (co b))
theorem len_conv (a b : List Rat) : (conv a b).length = a.length + b.length - 1 := by simp [conv]
theorem co_conv (a b : List Rat) (n : Nat) : co (conv a b) n = pc (co a) (co b) n := by
  by_cases h : n < a.length + b.length - 1
  · exact co_map h
  · rw [co_ge (by rw [len_conv]; omega), pc_zero (by omega)]
def padd (a b : List Rat) : List Rat := (List.range (max a.length b.length)).map fun n => co a n + co b n
theorem len_padd (a b : List Rat) : (padd a b).length = max a.length b.length := by simp [padd]
theorem co_padd (a b : List Rat) (n : Nat) : co (padd a b) n = co a n + co b n := by
  by_cases h : n < max a.length b.length
  · exact co_map h
  · rw [co_ge (by rw [len_padd]; omega), co_ge (l := a) (by omega), co_ge (l := b) (by omega)]
    grind
/-- dividing is unique -/
theorem div_uniq {b : List Rat} (hb : b ≠ []) (hl : co b (b.length - 1) ≠ 0) {d e : Nat → Rat} {N : Nat} (hd : ∀ k, N ≤ k → d k = 0) (he : ∀ k, b.length - 1 ≤ k → e k = 0)
    (h : ∀ n, pc d (co b) n + e n = 0) : (∀ k, d k = 0) ∧ ∀ k, e k = 0 := by
  have hb0 : 0 < b.length := List.length_pos_iff.mpr hb
  have top : ∀ j k, N ≤ k + j → d k = 0 := by
    intro j
    induction j with
    | zero => exact fun k hk => hd k hk
    | succ j ih =>
      intro k hk
      have h1 := h (k + (b.length - 1))
      rw [he _ (by omega), Rat.add_zero] at h1
      have h2 : pc d (co b) (k + (b.length - 1)) = d k * co b (b.length - 1) := by
        rw [← cs_pc d (co b) (k + (b.length - 1)) (k + 1) fun i hi => ih i (by omega)]
        have low : ∀ i, i ≤ k → cs d (co b) i (k + (b.length - 1)) = 0 := by
          intro i
          induction i with
          | zero => intro _; rfl
          | succ i ih2 =>
            intro hi
            unfold cs
            rw [ih2 (by omega), if_pos (by omega), co_ge (l := b) (by omega)]
            grind
        unfold cs
        rw [low k (Nat.le_refl k), if_pos (by omega), Rat.zero_add, show k + (b.length - 1) - k = b.length - 1 by omega]
      rw [h2] at h1
      rcases Rat.mul_eq_zero.mp h1 with z | z
      · exact z
      · exact absurd z hl
  have d0 : ∀ k, d k = 0 := fun k => top N k (by omega)
  refine ⟨d0, fun k => ?_⟩
  have h1 := h k
  have h2 : pc d (co b) k = 0 := by
    rw [← cs_pc d (co b) k 0 fun i _ => d0 i]
    rfl
  rw [h2, Rat.zero_add] at h1
  exact h1
/-- slopes -/
def slp (a : Nat → Rat) (n : Nat) : Rat := ((n + 1 : Nat) : Rat) * a (n + 1)
theorem slp_cs (a b : Nat → Rat) (n : Nat) : ((n + 1 : Nat) : Rat) * pc a b (n + 1) = pc (slp a) b n + pc a (slp b) n := by
  have natc : ∀ x y : Nat, ((x + y : Nat) : Rat) = (x : Rat) + (y : Rat) := fun x y => Rat.natCast_add x y
  have k1 : ∀ i, i ≤ n + 1 → cs (fun k => (k : Rat) * a k) b (i + 1) (n + 1) = cs (slp a) b i n := by
    intro i
    induction i with
    | zero =>
      intro _
      show 0 + (if 0 ≤ n + 1 then ((0 : Nat) : Rat) * a 0 * b (n + 1 - 0) else 0) = 0
      rw [if_pos (Nat.zero_le _)]
      have : ((0 : Nat) : Rat) = 0 := rfl
      grind
    | succ i ih =>
      intro hi
      rw [show cs (fun k => (k : Rat) * a k) b (i + 1 + 1) (n + 1) = cs (fun k => (k : Rat) * a k) b (i + 1) (n + 1) + (if i + 1 ≤ n + 1 then ((i + 1 : Nat) : Rat) * a (i + 1) * b (n + 1 - (i + 1)) else 0) from rfl, ih (by omega)]
      show _ = cs (slp a) b i n + (if i ≤ n then slp a i * b (n - i) else 0)
      rw [if_pos hi, if_pos (by omega), show n + 1 - (i + 1) = n - i by omega]
      rfl
  have k2 : ∀ i, i ≤ n + 1 → cs a (fun k => (k : Rat) * b k) i (n + 1) = cs a (slp b) i n := by
    intro i
    induction i with
    | zero => intro _; rfl
    | succ i ih =>
      intro hi
      unfold cs
      rw [ih (by omega), if_pos (by omega), if_pos (by omega), show n + 1 - i = n - i + 1 by omega]
      rfl
  have k3 : ∀ i, i ≤ n + 2 → ((n + 1 : Nat) : Rat) * cs a b i (n + 1) = cs (fun k => (k : Rat) * a k) b i (n + 1) + cs a (fun k => (k : Rat) * b k) i (n + 1) := by
    intro i
    induction i with
    | zero =>
      intro _
      show _ * (0 : Rat) = 0 + 0
      grind
    | succ i ih =>
      intro hi
      unfold cs
      rw [if_pos (by omega), if_pos (by omega), if_pos (by omega)]
      have e := ih (by omega)
      have e2 : ((n + 1 : Nat) : Rat) = (i : Rat) + ((n + 1 - i : Nat) : Rat) := by
        rw [← natc, show i + (n + 1 - i) = n + 1 by omega]
      grind
  have e := k3 (n + 2) (Nat.le_refl _)
  rw [k1 (n + 1) (Nat.le_refl _)] at e
  have e3 : cs a (fun k => (k : Rat) * b k) (n + 2) (n + 1) = cs a (slp b) (n + 1) n := by
    show cs a (fun k => (k : Rat) * b k) (n + 1) (n + 1) + (if n + 1 ≤ n + 1 then a (n + 1) * (((n + 1 - (n + 1) : Nat) : Rat) * b (n + 1 - (n + 1))) else 0) = _
    rw [k2 (n + 1) (Nat.le_refl _), if_pos (Nat.le_refl _), show n + 1 - (n + 1) = 0 by omega]
    have : ((0 : Nat) : Rat) = 0 := rfl
    grind
  rw [e3] at e
  exact e
def slope (l : List Rat) : List Rat := (List.range (l.length - 1)).map (slp (co l))
theorem len_slope (l : List Rat) : (slope l).length = l.length - 1 := by simp [slope]
theorem co_slope (l : List Rat) (n : Nat) : co (slope l) n = slp (co l) n := by
  by_cases h : n < l.length - 1
  · exact co_map h
  · rw [co_ge (by rw [len_slope]; omega)]
    unfold slp
    rw [co_ge (l := l) (by omega)]
    grind
end Mf
namespace Mf
open PySem PySem.Spec PyProof.Rows L2
/-! ### lists of reduced fractions on the heap -/
/-- all tuples stay -/
def KeepT (H H' : Hp) : Prop := ∀ b xs, H b = some (.tup xs) → H' b = some (.tup xs)
theorem Same.kt {H H' : Hp} (s : Same H H') : KeepT H H' := fun b xs e => s b _ e
theorem KeepT.refl (H : Hp) : KeepT H H := fun _ _ e => e
theorem KeepT.trans {H H1 H2 : Hp} (a : KeepT H H1) (b : KeepT H1 H2) : KeepT H H2 := fun c xs e => b c xs (a c xs e)
theorem SameX.kt {K : PySem.W.Frag} {q : Addr} {t : Int} {H H' : Hp} (s : SameX q H H') (hq : Qy K q t H) : KeepT H H' := fun b xs e => by
  refine s.kept b _ (fun z => ?_) e
  obtain ⟨c, ns, r, h1, _⟩ := hq
  rw [z, h1] at e
  cases e
theorem upd_kt {H : Hp} {D : Addr} {acc : List V} {o : HO} (e : H D = some (.lst acc)) : KeepT H (upd H D o) := fun b xs eb => by
  rw [upd_ne (fun z => by rw [z, e] at eb; cases eb)]
  exact eb
inductive TL (H : Hp) : List V → List Rat → Prop
  | nil : TL H [] []
  | cons {a : Addr} {r : Rat} {vs : List V} {rs : List Rat} : H a = some (.tup (rv r)) → TL H vs rs → TL H (.ref a :: vs) (r :: rs)
theorem TL.go {H H' : Hp} (s : KeepT H H') : ∀ {vs : List V} {rs : List Rat}, TL H vs rs → TL H' vs rs
  | _, _, .nil => .nil
  | _, _, .cons e t => .cons (s _ _ e) (TL.go s t)
theorem TL.len {H : Hp} : ∀ {vs : List V} {rs : List Rat}, TL H vs rs → vs.length = rs.length
  | _, _, .nil => rfl
  | _, _, .cons _ t => congrArg Nat.succ (TL.len t)
theorem TL.get {H : Hp} : ∀ {vs : List V} {rs : List Rat} {i : Nat} {v : V}, TL H vs rs → vs[i]? = some v → ∃ a, v = .ref a ∧ H a = some (.tup (rv (co rs i))) ∧ rs[i]? = some (co rs i)
  | _, _, _, _, .nil, h => by cases h
  | _, _, 0, _, .cons e _, h => by
    cases h
    exact ⟨_, rfl, e, rfl⟩
  | _, _, i + 1, v, .cons e t, h => by
    obtain ⟨a, h1, h2, h3⟩ := TL.get (i := i) (v := v) t h
    exact ⟨a, h1, h2, h3⟩
theorem TL.at {H : Hp} {vs : List V} {rs : List Rat} {i : Nat} (h : TL H vs rs) (hi : i < rs.length) : ∃ a, vs[i]? = some (.ref a) ∧ H a = some (.tup (rv (co rs i))) := by
  have : i < vs.length := by rw [h.len]; exact hi
  obtain ⟨a, h1, h2, _⟩ := h.get (List.getElem?_eq_getElem this)
  exact ⟨a, by rw [List.getElem?_eq_getElem this, h1], h2⟩
theorem TL.snoc {H : Hp} {a : Addr} {r : Rat} (e : H a = some (.tup (rv r))) : ∀ {vs : List V} {rs : List Rat}, TL H vs rs → TL H (vs ++ [.ref a]) (rs ++ [r])
  | _, _, .nil => .cons e .nil
  | _, _, .cons g t => .cons g (TL.snoc e t)
theorem TL.app {H : Hp} : ∀ {vs ws : List V} {rs ss : List Rat}, TL H vs rs → TL H ws ss → TL H (vs ++ ws) (rs ++ ss)
  | _, _, _, _, .nil, h => h
  | _, _, _, _, .cons e t, h => .cons e (TL.app t h)
theorem TL.take {H : Hp} : ∀ {vs : List V} {rs : List Rat} (n : Nat), TL H vs rs → TL H (vs.take n) (rs.take n)
  | _, _, _, .nil => by rw [List.take_nil, List.take_nil]; exact .nil
  | _, _, 0, .cons _ _ => .nil
  | _, _, n + 1, .cons e t => .cons e (TL.take n t)
theorem TL.drop {H : Hp} : ∀ {vs : List V} {rs : List Rat} (n : Nat), TL H vs rs → TL H (vs.drop n) (rs.drop n)
  | _, _, _, .nil => by rw [List.drop_nil, List.drop_nil]; exact .nil
  | _, _, 0, .cons e t => .cons e t
  | _, _, n + 1, .cons e t => TL.drop n t
theorem TL.set {H : Hp} {a : Addr} {r : Rat} (e : H a = some (.tup (rv r))) : ∀ {vs : List V} {rs : List Rat} (k : Nat), TL H vs rs → TL H (vs.set k (.ref a)) (rs.set k r)
  | _, _, _, .nil => .nil
  | _, _, 0, .cons _ t => .cons e t
  | _, _, k + 1, .cons g t => .cons g (TL.set e k t)
theorem TL.rep {H : Hp} {a : Addr} {r : Rat} (e : H a = some (.tup (rv r))) : ∀ n : Nat, TL H (List.replicate n (.ref a)) (List.replicate n r)
  | 0 => .nil
  | n + 1 => .cons e (TL.rep e n)
theorem TL.nil_of {H : Hp} {rs : List Rat} (h : TL H [] rs) : rs = [] := by cases h; rfl
theorem TL.data {H : Hp} {q : Addr} {K : PySem.W.Frag} {acc : List V} (hq : H q = some (.lst acc)) : ∀ {vs : List V} {rs : List Rat}, TL H vs rs → DqAll q K H vs (rs.map rd)
  | _, _, .nil => .nil
  | _, _, .cons e t => .cons (.tup (fun z => by rw [z, hq] at e; cases e) (tupU e) (.cons (.int _) (.cons (.int _) .nil))) (TL.data hq t)
theorem TL.dp {H : Hp} {K : PySem.W.Frag} : ∀ {vs : List V} {rs : List Rat}, TL H vs rs → DpAll K H vs (rs.map rd)
  | _, _, .nil => .nil
  | _, _, .cons e t => .cons (.tup (tupU e) (.cons (.int _) (.cons (.int _) .nil))) (TL.dp t)
/-- all numbers below 2 ^ n -/
def RbL (n : Nat) (rs : List Rat) : Prop := ∀ r ∈ rs, Rb n r
theorem RbL.mono {m n : Nat} {rs : List Rat} (h : RbL m rs) (l : m ≤ n) : RbL n rs := fun r hr => (h r hr).mono l
theorem Rb0n {n : Nat} (h : 1 ≤ n) : Rb n 0 := Rb0.mono h
theorem RbL.co {n : Nat} {rs : List Rat} (h : RbL n rs) (hn : 1 ≤ n) (i : Nat) : Rb n (co rs i) := by
  by_cases e : i < rs.length
  · rw [co_get e]
    exact h _ (List.getElem_mem e)
  · rw [co_ge (by omega)]
    exact Rb0n hn
theorem RbL.of_co {n : Nat} {rs : List Rat} (h : ∀ i, i < rs.length → Rb n (Mf.co rs i)) : RbL n rs := by
  intro r hr
  obtain ⟨i, hi, e⟩ := List.getElem_of_mem hr
  rw [← e, ← co_get hi]
  exact h i hi
theorem RbL.trim {n : Nat} {rs : List Rat} (h : RbL n rs) : RbL n (trimR rs) := fun r hr => h r (mem_trim hr)
theorem RbL.take {n k : Nat} {rs : List Rat} (h : RbL n rs) : RbL n (rs.take k) := fun r hr => h r (List.mem_of_mem_take hr)
theorem RbL.drop {n k : Nat} {rs : List Rat} (h : RbL n rs) : RbL n (rs.drop k) := fun r hr => h r (List.mem_of_mem_drop hr)
theorem fr_tl {q : Addr} {K : PySem.W.Frag} {H : Hp} {a : Addr} {r : Rat} {n : Nat} (e : H a = some (.tup (rv r))) (b : Rb n r) : Fr (a + 1) K H (.ref a) r n := .tup (tupU e) (Nat.ne_of_lt (Nat.lt_succ_self a)) b
/-! ### repr and == of such lists -/
structure ShN (B W d : Nat) (x : PyData) : Prop where
  sh : x.showable = true
  lv : x.leavesShort B = true
  nd : x.hasDict = false
  ly : x.canLay0 = true
  wt : x.weight ≤ W
  dp : x.depth ≤ d
structure ShA (B W d : Nat) (xs : List PyData) : Prop where
  sh : PyData.showableAll xs = true
  lv : PyData.leavesShortAll B xs = true
  nd : PyData.hasDictAll xs = false
  ly : PyData.canLayAll0 xs = true
  wt : PyData.weightAll xs ≤ W
  dp : PyData.depthAll xs ≤ d
theorem ShN.mono {B W d W' d' : Nat} {x : PyData} (h : ShN B W d x) (w : W ≤ W') (e : d ≤ d') : ShN B W' d' x := ⟨h.sh, h.lv, h.nd, h.ly, Nat.le_trans h.wt w, Nat.le_trans h.dp e⟩
theorem sha_nil {B W d : Nat} : ShA B W d [] := ⟨rfl, rfl, rfl, rfl, Nat.zero_le _, Nat.zero_le _⟩
theorem sha_cons {B W W' d : Nat} {x : PyData} {xs : List PyData} (h : ShN B W d x) (t : ShA B W' d xs) : ShA B (W + 1 + W') d (x :: xs) := by
  refine ⟨?_, ?_, ?_, ?_, ?_, ?_⟩
  · show (x.showable && PyData.showableAll xs) = true
    rw [h.sh, t.sh] <;> rfl
  · show (x.leavesShort B && PyData.leavesShortAll B xs) = true
    rw [h.lv, t.lv] <;> rfl
  · show (x.hasDict || PyData.hasDictAll xs) = false
    rw [h.nd, t.nd] <;> rfl
  · show (x.canLay0 && PyData.canLayAll0 xs) = true
    rw [h.ly, t.ly] <;> rfl
  · have := h.wt
    have := t.wt
    simp only [PyData.weightAll]
    omega
  · have := h.dp
    have := t.dp
    simp only [PyData.depthAll]
    omega
theorem sha_tup {B W d : Nat} {xs : List PyData} (h : ShA B W d xs) : ShN B (W + 1) (d + 1) (.tuple xs) := by
  refine ⟨h.sh, h.lv, h.nd, h.ly, ?_, ?_⟩
  · have := h.wt
    rw [PyData.weight]
    omega
  · have := h.dp
    simp only [PyData.depth]
    omega
theorem sha_lst {B W d : Nat} {xs : List PyData} (h : ShA B W d xs) : ShN B (W + 1) (d + 1) (.list xs) := by
  refine ⟨h.sh, h.lv, h.nd, h.ly, ?_, ?_⟩
  · have := h.wt
    rw [PyData.weight]
    omega
  · have := h.dp
    simp only [PyData.depth]
    omega
theorem shn_int {i : Int} {n : Nat} (b : Bt n i) (hn : 1 ≤ n) (l : n ≤ 1900) : ShN (n + 1) n 1 (.int i) := by
  have lg : i.natAbs.log2 < n := by
    by_cases z : i.natAbs = 0
    · rw [z, Nat.log2_zero]
      omega
    · exact (Nat.log2_lt z).mpr b
  refine ⟨decide_eq_true (by omega), ?_, rfl, rfl, ?_, ?_⟩
  · show decide ((PyData.shown (.int i)).length ≤ n + 1) = true
    refine decide_eq_true ?_
    show (PySem.Str.ofString (toString i)).length ≤ n + 1
    rw [PySem.ofString_length]
    exact PySem.int_text_length_le (by omega) lg
  · show (if (i == 0) = true then 0 else i.natAbs.log2 + 1) ≤ n
    split <;> omega
  · simp [PyData.depth]
theorem shn_rd {r : Rat} {n : Nat} (b : Rb n r) (hn : 1 ≤ n) (l : n ≤ 1900) : ShN (n + 1) (2 * n + 3) 2 (rd r) :=
  (sha_tup (sha_cons (shn_int b.1 hn l) (sha_cons (shn_int b.2 hn l) (sha_nil (W := 0))))).mono (by omega) (Nat.le_refl _)
theorem sha_rds {n : Nat} (hn : 1 ≤ n) (l : n ≤ 1900) : ∀ {rs : List Rat}, RbL n rs → ShA (n + 1) (rs.length * (2 * n + 4)) 2 (rs.map rd)
  | [], _ => sha_nil
  | r :: rs, h => by
    have t := sha_rds hn l (rs := rs) fun x hx => h x (List.mem_cons_of_mem _ hx)
    have z := sha_cons (shn_rd (h r List.mem_cons_self) hn l) t
    refine ⟨z.sh, z.lv, z.nd, z.ly, ?_, z.dp⟩
    have w := z.wt
    rw [List.length_cons, Nat.succ_mul]
    show PyData.weightAll (rd r :: rs.map rd) ≤ _
    omega
theorem shn_poly {n L : Nat} (hn : 1 ≤ n) (l : n ≤ 1900) {rs : List Rat} (h : RbL n rs) (hl : rs.length ≤ L) : ShN (n + 1) (L * (2 * n + 4) + 1) 3 (.tuple (rs.map rd)) :=
  (sha_tup (sha_rds hn l h)).mono (Nat.add_le_add_right (Nat.mul_le_mul_right _ hl) 1) (Nat.le_refl _)
section
variable {K : PySem.W.Frag} {H : Hp} {Q : VK} {v : V}
theorem g_reprS {B W d : Nat} {x : PyData} (h : Dp K H v x) (s : ShN B W d x) (hB : 8 ≤ B) (hw : (B + 2) * W + B ≤ 16777216) (hd : d ≤ 60) (k : Q (.str x.shown) H) : rReprU K [v] H Q := by
  refine g_repr h s.sh s.nd (Nat.le_trans s.dp hd) ?_ k
  rw [sizeLine_eq]
  have h1 := PyData.shown_le B hB x s.lv
  have h2 : (B + 2) * x.weight ≤ (B + 2) * W := Nat.mul_le_mul_left _ s.wt
  omega
theorem shp {B W d : Nat} {x : PyData} (s : ShN B W d x) (hd : d ≤ 60) : SeqAt.shaped x = true := by
  unfold SeqAt.shaped
  rw [Bool.and_eq_true]
  exact ⟨s.ly, decide_eq_true (Nat.le_trans s.dp (by omega))⟩
theorem g_neSame {u v : V} {B W d : Nat} {x : PyData} (h1 : Dp K H u x) (h2 : Dp K H v x) (s : ShN B W d x) (hd : d ≤ 60) (k : Q (.bl false) H) : rNeU K u v H Q := by
  refine .inr ⟨x, x, h1, h2, shp s hd, shp s hd, ?_⟩
  rw [SeqAt.eqv_refl x s.ly]
  exact k
theorem g_eqSame {u v : V} {B W d : Nat} {x : PyData} (h1 : Dp K H u x) (h2 : Dp K H v x) (s : ShN B W d x) (hd : d ≤ 60) (k : Q (.bl true) H) : rEqU K u v H Q := by
  refine .inr ⟨x, x, h1, h2, shp s hd, shp s hd, ?_⟩
  rw [SeqAt.eqv_refl x s.ly]
  exact k
theorem lay_rds : ∀ rs : List Rat, PyData.canLayAll0 (rs.map rd) = true
  | [] => rfl
  | r :: rs => by
    show ((rd r).canLay0 && PyData.canLayAll0 (rs.map rd)) = true
    rw [lay_rds rs] <;> rfl
theorem dep_rds : ∀ rs : List Rat, PyData.depthAll (rs.map rd) ≤ 2
  | [] => Nat.zero_le _
  | r :: rs => by
    have h := dep_rds rs
    have h2 : (rd r).depth ≤ 2 := by simp [rd, PyData.depth, PyData.depthAll]
    rw [List.map_cons]
    simp only [PyData.depthAll]
    omega
theorem shp_rds (rs : List Rat) : SeqAt.shaped (.tuple (rs.map rd)) = true := by
  unfold SeqAt.shaped
  rw [Bool.and_eq_true]
  refine ⟨lay_rds rs, decide_eq_true ?_⟩
  have := dep_rds rs
  simp only [PyData.depth]
  omega
/-- a tuple of fractions != () -/
theorem g_neNilT {a p : Addr} {vs : List V} {rs : List Rat} (h : SqT K H a vs) (t : TL H vs rs) (h2 : SqT K H p []) (k : Q (.bl (!rs.isEmpty)) H) : rNeU K (.ref a) (.ref p) H Q := by
  refine .inr ⟨.tuple (rs.map rd), .tuple [], .tup h t.dp, .tup h2 .nil, shp_rds rs, by decide, ?_⟩
  cases rs with
  | nil => exact k
  | cons r rs => exact k
theorem eqv_rd (r : Rat) : PyData.eqv (rd r) (rd 0) = decide (r = 0) := by
  have e : PyData.eqv (rd r) (rd 0) = ((r.num == 0) && (((r.den : Int) == 1) && true)) := rfl
  rw [e]
  by_cases z : r = 0
  · subst z
    rfl
  · rw [decide_eq_false z, beq_eq_false_iff_ne.mpr (fun n => z (Rat.num_eq_zero.mp n))] <;> rfl
theorem g_eqZ {a p : Addr} {r : Rat} (h : SqT K H a (rv r)) (h2 : SqT K H p (rv 0)) (k : Q (.bl (decide (r = 0))) H) : rEqU K (.ref a) (.ref p) H Q := by
  refine .inr ⟨rd r, rd 0, .tup h (.cons (.int _) (.cons (.int _) .nil)), .tup h2 (.cons (.int _) (.cons (.int _) .nil)), by rfl, by rfl, ?_⟩
  rw [eqv_rd]
  exact k
end
end Mf
namespace Mf
/-! ### dividing, step by step -/
def dsh (g rest : List Rat) : Rat := co rest (rest.length - 1) / co g (g.length - 1)
def dlow (g rest : List Rat) (s : Nat) : List Rat := (List.range (g.length - 1)).map fun k => co rest (s + k) - dsh g rest * co g k
def dnext (g rest : List Rat) (s : Nat) : List Rat := rest.take s ++ dlow g rest s
def drun (g : List Rat) : Nat → List Rat → List Rat → List Rat × List Rat
  | 0, Q, rest => (Q, rest)
  | s + 1, Q, rest => drun g s (Q.set s (dsh g rest)) (dnext g rest s)
theorem len_dlow (g rest : List Rat) (s : Nat) : (dlow g rest s).length = g.length - 1 := by simp [dlow]
theorem len_dnext {g rest : List Rat} {s : Nat} (h : s ≤ rest.length) : (dnext g rest s).length = s + (g.length - 1) := by
  unfold dnext
  rw [List.length_append, List.length_take, len_dlow]
  omega
theorem co_dnext {g rest : List Rat} {s : Nat} (hg : g ≠ []) (hl : co g (g.length - 1) ≠ 0) (h : rest.length = s + g.length) (n : Nat) :
    co (dnext g rest s) n = co rest n - (if s ≤ n then dsh g rest * co g (n - s) else 0) := by
  have g0 : 0 < g.length := List.length_pos_iff.mpr hg
  unfold dnext
  rw [co_append, List.length_take, Nat.min_eq_left (by omega)]
  by_cases z : n < s
  · rw [if_pos z, if_neg (by omega), co_take z]
    grind
  · rw [if_neg z, if_pos (by omega)]
    by_cases z2 : n - s < g.length - 1
    · show co (dlow g rest s) (n - s) = _
      unfold dlow
      rw [co_map z2, show s + (n - s) = n by omega]
    · rw [co_ge (l := dlow g rest s) (by rw [len_dlow]; omega)]
      by_cases z3 : n = s + (g.length - 1)
      · subst z3
        rw [show s + (g.length - 1) - s = g.length - 1 by omega]
        unfold dsh
        rw [h, show s + g.length - 1 = s + (g.length - 1) by omega, Rat.div_def, Rat.mul_assoc, Rat.inv_mul_cancel _ hl]
        grind
      · rw [co_ge (l := rest) (by omega), co_ge (l := g) (by omega)]
        grind
theorem drun_spec {g : List Rat} (hg : g ≠ []) (hl : co g (g.length - 1) ≠ 0) : ∀ (s : Nat) (Q rest : List Rat), s ≤ Q.length → (s = 0 ∧ rest.length < g.length ∨ rest.length + 1 = s + g.length) → (∀ k, k < s → co Q k = 0) →
    (drun g s Q rest).1.length = Q.length ∧ (drun g s Q rest).2.length < g.length ∧ ∀ n, pc (co (drun g s Q rest).1) (co g) n + co (drun g s Q rest).2 n = pc (co Q) (co g) n + co rest n := by
  intro s
  have g0 : 0 < g.length := List.length_pos_iff.mpr hg
  induction s with
  | zero =>
    intro Q rest hQ hr hz
    exact ⟨rfl, by show rest.length < _; omega, fun n => rfl⟩
  | succ s ih =>
    intro Q rest hQ hr hz
    have hr' : rest.length = s + g.length := by omega
    have e := ih (Q.set s (dsh g rest)) (dnext g rest s) (by rw [List.length_set]; omega) (.inr (by rw [len_dnext (by omega)]; omega)) (fun k hk => by rw [co_set (by omega), if_neg (by omega)]; exact hz k (by omega))
    obtain ⟨e1, e2, e3⟩ := e
    refine ⟨by show (drun g s _ _).1.length = _; rw [e1, List.length_set], e2, fun n => ?_⟩
    show pc (co (drun g s (Q.set s (dsh g rest)) (dnext g rest s)).1) (co g) n + co (drun g s (Q.set s (dsh g rest)) (dnext g rest s)).2 n = _
    rw [e3 n, co_dnext hg hl hr', pc_set (a := co Q) (s := s) (x := dsh g rest) (hz s (by omega)) (by rw [co_set (by omega), if_pos rfl]) (fun k hk => by rw [co_set (by omega), if_neg hk])]
    grind
/-- the sizes along the way -/
def dfits (B : Nat) (g : List Rat) : Nat → List Rat → Prop
  | 0, rest => RbL B rest
  | s + 1, rest => RbL B rest ∧ Rb B (dsh g rest) ∧ dfits B g s (dnext g rest s)
theorem dfits.now {B : Nat} {g rest : List Rat} : ∀ {s : Nat}, dfits B g s rest → RbL B rest
  | 0, h => h
  | _ + 1, h => h.1
theorem dfits.out {B : Nat} (hB : 1 ≤ B) {g : List Rat} : ∀ {s : Nat} {Q rest : List Rat}, dfits B g s rest → RbL B Q → RbL B (drun g s Q rest).1 ∧ RbL B (drun g s Q rest).2
  | 0, Q, rest, h, hQ => ⟨hQ, h⟩
  | s + 1, Q, rest, h, hQ => by
    refine dfits.out hB (s := s) h.2.2 fun r hr => ?_
    rcases List.mem_or_eq_of_mem_set hr with z | z
    · exact hQ r z
    · rw [z]
      exact h.2.1
/-- numbers with one down -/
def Sc (W : Int) (k : Nat) (r : Rat) : Prop := ∃ u : Int, r = Rat.divInt u W ∧ Bt k u
theorem Sc.rb {W : Int} {k w B : Nat} {r : Rat} (h : Sc W k r) (hW : 1 ≤ W) (bW : Bt w W) (h1 : k ≤ B) (h2 : w ≤ B) : Rb B r := by
  obtain ⟨u, rfl, b⟩ := h
  exact Rb.of hW (b.mono h1) (bW.mono h2)
theorem Sc.zero {W : Int} {k : Nat} : Sc W k 0 := ⟨0, by rw [Rat.zero_divInt], by show (0 : Int).natAbs < 2 ^ k; exact Nat.two_pow_pos k⟩
theorem Sc.mono {W : Int} {k k' : Nat} {r : Rat} (h : Sc W k r) (l : k ≤ k') : Sc W k' r := by
  obtain ⟨u, e, b⟩ := h
  exact ⟨u, e, b.mono l⟩
theorem Sc.scale {W V : Int} {k v : Nat} {r : Rat} (h : Sc W k r) (hW : 1 ≤ W) (hV : 1 ≤ V) (bV : Bt v V) : Sc (W * V) (k + v) r := by
  obtain ⟨u, rfl, b⟩ := h
  refine ⟨u * V, ?_, b.mul bV⟩
  exact (Rat.divInt_mul_right (by omega)).symm
theorem Sc.add {W : Int} {k l : Nat} {r s : Rat} (h : Sc W k r) (h2 : Sc W l s) (hW : 1 ≤ W) : Sc W (max k l + 1) (r + s) := by
  obtain ⟨u, rfl, b⟩ := h
  obtain ⟨v, rfl, c⟩ := h2
  refine ⟨u + v, ?_, (b.mono (Nat.le_max_left _ _)).add (c.mono (Nat.le_max_right _ _))⟩
  rw [Rat.divInt_add_divInt _ _ (by omega) (by omega), ← Int.add_mul, Rat.divInt_mul_right (by omega)]
theorem Sc.mul {W V : Int} {k l : Nat} {r s : Rat} (h : Sc W k r) (h2 : Sc V l s) : Sc (W * V) (k + l) (r * s) := by
  obtain ⟨u, rfl, b⟩ := h
  obtain ⟨v, rfl, c⟩ := h2
  exact ⟨u * v, Rat.divInt_mul_divInt _ _, b.mul c⟩
theorem mul_ge1 {a b : Int} (ha : 1 ≤ a) (hb : 1 ≤ b) : 1 ≤ a * b := Int.le_trans (by decide) (Int.mul_le_mul ha hb (by decide) (by omega))
/-- all numbers of a list with one down -/
theorem sc_of {n : Nat} : ∀ {rs : List Rat}, RbL n rs → ∃ W : Int, 1 ≤ W ∧ Bt (rs.length * n + 1) W ∧ ∀ i, Sc W (rs.length * n + n + 1) (co rs i)
  | [], _ => ⟨1, by decide, by show (1 : Int).natAbs < 2 ^ (0 * n + 1); rw [Nat.zero_mul]; decide, fun i => by rw [co_nil]; exact Sc.zero⟩
  | r :: rs, h => by
    obtain ⟨W, h1, h2, h3⟩ := sc_of (rs := rs) fun x hx => h x (List.mem_cons_of_mem _ hx)
    have hr := h r List.mem_cons_self
    have e : r = Rat.divInt r.num r.den := (Rat.num_divInt_den r).symm
    refine ⟨W * r.den, mul_ge1 h1 (den1 r), (h2.mul hr.2).mono (by rw [List.length_cons, Nat.succ_mul]; omega), fun i => ?_⟩
    cases i with
    | zero =>
      have z : Sc (r.den : Int) n r := ⟨r.num, e, hr.1⟩
      have z2 := z.scale (den1 r) h1 h2
      rw [Int.mul_comm] at z2
      exact z2.mono (by rw [List.length_cons, Nat.succ_mul]; omega)
    | succ i =>
      have z := (h3 i).scale h1 (den1 r) hr.2
      exact z.mono (by rw [List.length_cons, Nat.succ_mul]; omega)
theorem sc_pc {a b : Nat → Rat} {W V : Int} {k l : Nat} (hW : 1 ≤ W) (hV : 1 ≤ V) (ha : ∀ i, Sc W k (a i)) (hb : ∀ i, Sc V l (b i)) : ∀ i n, Sc (W * V) (k + l + i) (cs a b i n)
  | 0, n => Sc.zero
  | i + 1, n => by
    rw [cs_succ]
    split
    · exact ((sc_pc hW hV ha hb i n).add ((ha i).mul (hb (n - i))) (mul_ge1 hW hV)).mono (by omega)
    · rw [Rat.add_zero]
      exact (sc_pc hW hV ha hb i n).mono (by omega)
theorem sc_low {W l D u v c : Int} (hW : 1 ≤ W) (hD : 1 ≤ D) (hl : l ≠ 0) :
    Rat.divInt v W - Rat.divInt u W / Rat.divInt l D * Rat.divInt c D = Rat.divInt ((v * l - u * c) * (if 0 < l then 1 else -1)) (W * (l.natAbs : Int)) := by
  have e1 : Rat.divInt u W / Rat.divInt l D = Rat.divInt (u * D) (W * l) := by
    rw [Rat.div_def, Rat.inv_divInt, Rat.divInt_mul_divInt]
  have n1 : W * l ≠ 0 := Int.mul_ne_zero (by omega) hl
  rw [e1, Rat.divInt_mul_divInt]
  have e2 : Rat.divInt (u * D * c) (W * l * D) = Rat.divInt (u * c) (W * l) := by
    rw [show u * D * c = u * c * D by grind, Rat.divInt_mul_right (by omega)]
  have e3 : Rat.divInt v W = Rat.divInt (v * l) (W * l) := (Rat.divInt_mul_right hl).symm
  rw [e2, e3, Rat.divInt_sub_divInt _ _ n1 n1, ← Int.sub_mul, Rat.divInt_mul_right n1]
  by_cases h : 0 < l
  · rw [if_pos h, Int.mul_one, show (l.natAbs : Int) = l by omega]
  · rw [if_neg h, show (l.natAbs : Int) = -l by omega, ← Rat.neg_divInt_neg, Int.mul_neg, Int.mul_one, Int.mul_neg]
/-- so the numbers stay small -/
theorem dfits_of {g : List Rat} (hg : g ≠ []) (hl : co g (g.length - 1) ≠ 0) {D : Int} {d kg B : Nat} (hD : 1 ≤ D) (bD : Bt d D) (sg : ∀ i, Sc D kg (co g i)) :
    ∀ (s : Nat) (rest : List Rat) (W : Int) (w k : Nat), (s = 0 ∨ rest.length + 1 = s + g.length) → 1 ≤ W → Bt w W → (∀ i, Sc W k (co rest i)) → k + s * (kg + 1) + d ≤ B → w + s * kg + kg ≤ B → dfits B g s rest := by
  intro s
  have g0 : 0 < g.length := List.length_pos_iff.mpr hg
  obtain ⟨l, el, bl⟩ := sg (g.length - 1)
  have hl0 : l ≠ 0 := fun z => hl (by rw [el, z, Rat.zero_divInt])
  induction s with
  | zero =>
    intro rest W w k hr hW bW sr h1 h2
    refine RbL.of_co fun i _ => ?_
    exact (sr i).rb hW bW (by omega) (by omega)
  | succ s ih =>
    intro rest W w k hr hW bW sr h1 h2
    have hr' : rest.length = s + g.length := by omega
    rw [Nat.succ_mul] at h1 h2
    have bl' : Bt kg (l.natAbs : Int) := by
      show (l.natAbs : Int).natAbs < 2 ^ kg
      rw [Int.natAbs_natCast]
      exact bl
    have hW' : 1 ≤ W * (l.natAbs : Int) := mul_ge1 hW (by omega)
    obtain ⟨u, eu, bu⟩ := sr (rest.length - 1)
    refine ⟨RbL.of_co fun i _ => (sr i).rb hW bW (by omega) (by omega), ?_, ?_⟩
    · unfold dsh
      rw [eu, el, Rat.div_def, Rat.inv_divInt, Rat.divInt_mul_divInt]
      by_cases z : 0 < l
      · exact Rb.of (mul_ge1 hW (by omega)) ((bu.mul bD).mono (by omega)) ((bW.mul bl).mono (by omega))
      · rw [← Rat.neg_divInt_neg, show -(W * l) = W * -l from (Int.mul_neg _ _).symm]
        exact Rb.of (mul_ge1 hW (by omega)) ((bu.mul bD).neg.mono (by omega)) ((bW.mul bl.neg).mono (by omega))
    · refine ih (dnext g rest s) (W * (l.natAbs : Int)) (w + kg) (k + kg + 1) (.inr (by rw [len_dnext (by omega)]; omega)) hW' (bW.mul bl') (fun i => ?_) (by omega) (by omega)
      rw [co_dnext hg hl hr']
      by_cases z : s ≤ i
      · rw [if_pos z]
        obtain ⟨v, ev, bv⟩ := sr i
        obtain ⟨c, ec, bc⟩ := sg (i - s)
        unfold dsh
        rw [eu, el, ev, ec, sc_low hW hD hl0]
        refine ⟨_, rfl, ?_⟩
        have b1 : Bt (k + kg + 1) (v * l - u * c) := (bv.mul bl).sub (bu.mul bc)
        split
        · rw [Int.mul_one]
          exact b1
        · rw [Int.mul_neg, Int.mul_one]
          exact b1.neg
      · rw [if_neg z, show co rest i - 0 = co rest i by grind]
        exact ((sr i).scale hW (by omega) bl').mono (by omega)
/-- sizes of the sums of a product -/
theorem cs_rb {a b : List Rat} {A B : Nat} (ha : RbL A a) (hb : RbL B b) (hA : 1 ≤ A) (hB : 1 ≤ B) (i n : Nat) : Rb (1 + b.length * (A + B + 1)) (cs (co a) (co b) i n) := by
  have key : ∀ i, Rb (1 + (min i (n + 1) - (n + 1 - b.length)) * (A + B + 1)) (cs (co a) (co b) i n) := by
    intro i
    induction i with
    | zero => exact Rb0.mono (by omega)
    | succ i ih =>
      rw [cs_succ]
      by_cases z : i ≤ n
      · rw [if_pos z]
        by_cases z2 : n - i < b.length
        · have e : min (i + 1) (n + 1) - (n + 1 - b.length) = (min i (n + 1) - (n + 1 - b.length)) + 1 := by omega
          rw [e, Nat.succ_mul]
          exact (ih.add ((ha.co hA i).mul (hb.co hB (n - i)))).mono (by omega)
        · rw [co_ge (l := b) (by omega), Rat.mul_zero, Rat.add_zero]
          exact ih.mono (Nat.add_le_add_left (Nat.mul_le_mul_right _ (by omega)) 1)
      · rw [if_neg z, Rat.add_zero]
        exact ih.mono (Nat.add_le_add_left (Nat.mul_le_mul_right _ (by omega)) 1)
  exact (key i).mono (Nat.add_le_add_left (Nat.mul_le_mul_right _ (by omega)) 1)
theorem rbl_conv {a b : List Rat} {A B : Nat} (ha : RbL A a) (hb : RbL B b) (hA : 1 ≤ A) (hB : 1 ≤ B) : RbL (1 + b.length * (A + B + 1)) (conv a b) :=
  RbL.of_co fun i _ => by
    rw [co_conv]
    exact cs_rb ha hb hA hB _ _
theorem rbl_padd {a b : List Rat} {A B : Nat} (ha : RbL A a) (hb : RbL B b) (hA : 1 ≤ A) (hB : 1 ≤ B) : RbL (A + B + 1) (padd a b) :=
  RbL.of_co fun i _ => by
    rw [co_padd]
    exact (ha.co hA i).add (hb.co hB i)
theorem num_nat (n : Nat) : (n : Rat).num = (n : Int) := rfl
theorem den_nat (n : Nat) : ((n : Rat).den : Int) = 1 := rfl
theorem tr_slope {l : List Rat} (h : Tr l) : Tr (slope l) := by
  intro hne
  have hl : 0 < (slope l).length := List.length_pos_iff.mpr hne
  rw [len_slope] at hl
  rw [co_slope, len_slope]
  unfold slp
  rw [show l.length - 1 - 1 + 1 = l.length - 1 by omega]
  have h1 := h (fun z => by rw [z] at hl; simp at hl)
  intro z
  rcases Rat.mul_eq_zero.mp z with e | e
  · have := congrArg Rat.num e
    rw [num_nat] at this
    simp at this
    omega
  · exact h1 e
end Mf
namespace Mf
open PySem PySem.Spec PyProof.Rows L2
abbrev g2 (K : PySem.W.Frag) (i j : Nat) : TG := gTup K 2 (gCons (gName i) (gCons (gName j) gNil))
section
variable {K : PySem.W.Frag} {σ : L2.St} {H H1 : Hp} {Q : VK} {v x y : V} {te : TE} {tt : TT} {vs : List Nat} {D : Ends} {tb : TS}
theorem g_pair {i j : Nat} {a : Addr} {R : L2.St → Hp → Prop} (h : SqT K H a [x, y]) (q : R ((σ.set i (some x)).set j (some y)) H) : g2 K i j (.ref a) σ H R :=
  ⟨a, [x, y], rfl, h, rfl, x, [y], rfl, y, [], rfl, rfl, q⟩
def iEnumS (K : PySem.W.Frag) (ta : TA) : TI := fun σ H R => iEnum K ta σ H R ∨ iEnumT K ta σ H R
/-- for i, x in enumerate(a), a a list or a tuple that stays -/
theorem g_forE {i0 i j : Nat} {a : Addr} {xs : List V} {H0 : Hp} (e : σ[i0]? = some (some (.ref a))) (hs : Sq K H0 a xs) (Pv : Nat → L2.St → Hp → Prop) (h0 : Pv 0 σ H) (hx : ∀ n σ' H', Pv n σ' H' → Same H0 H')
    (hb : ∀ n x σ' H' T, xs[n]? = some x → Pv n σ' H' → H' T = none → tb ⟨Pv (n + 1), D.rt, D.nx, Pv (n + 1)⟩ ((σ'.set i (some (.int (n : Nat)))).set j (some x)) (upd H' T (.tup [.int (n : Nat), x])))
    (hd : ∀ σ' H', Pv xs.length σ' H' → D.nx σ' H') : tFor (iEnumS K (tCons (tVar i0) tNil)) (g2 K i j) tb D σ H := by
  have sH := hx _ _ _ h0
  rcases hs with hs | hs
  · refine .inl (g_cons (g_var e (g_nil ⟨a, xs, rfl, sH.seq hs, fun i m σ H => m = xs.length - i ∧ i ≤ xs.length ∧ Pv i σ H, ⟨xs.length, by omega, Nat.zero_le _, h0⟩, ?_⟩)))
    rintro n m σ H ⟨rfl, hi, p⟩
    have q := (hx _ _ _ p).seq hs
    by_cases hlt : n < xs.length
    · refine .inr ⟨⟨xs, xs[n], q, by simp [hlt]⟩, Pv (n + 1), fun σ' H' p' => ⟨xs.length - (n + 1), by omega, rfl, hlt, p'⟩, fun x H' yl => ?_⟩
      obtain ⟨T, z, rfl, nT, rfl, ez⟩ := yl
      exact g_pair (tupU upd_same) (hb n z σ H T (ez xs q) p nT)
    · have e2 : n = xs.length := by omega
      subst e2
      exact .inl ⟨⟨xs, q, Nat.le_refl _⟩, hd σ H p⟩
  · have st : ∀ {H' : Hp}, Same H0 H' → SqT K H' a xs := fun s => (Same.x (q := a + 1) s).tup (Nat.ne_of_lt (Nat.lt_succ_self a)) hs
    refine .inr (g_cons (g_var e (g_nil ⟨a, xs, rfl, st sH, fun i m σ H => m = xs.length - i ∧ i ≤ xs.length ∧ Pv i σ H, ⟨xs.length, by omega, Nat.zero_le _, h0⟩, ?_⟩)))
    rintro n m σ H ⟨rfl, hi, p⟩
    have q := st (hx _ _ _ p)
    by_cases hlt : n < xs.length
    · refine .inr ⟨⟨xs, xs[n], q, by simp [hlt]⟩, Pv (n + 1), fun σ' H' p' => ⟨xs.length - (n + 1), by omega, rfl, hlt, p'⟩, fun x H' yl => ?_⟩
      obtain ⟨T, z, rfl, nT, rfl, ez⟩ := yl
      exact g_pair (tupU upd_same) (hb n z σ H T (ez xs q) p nT)
    · have e2 : n = xs.length := by omega
      subst e2
      exact .inl ⟨⟨xs, q, Nat.le_refl _⟩, hd σ H p⟩
/-- a comprehension over enumerate(a), a a tuple -/
theorem lcgo_enumT {a : Addr} {xs : List V} {i j : Nat} (Pv : Addr → Nat → Hp → Prop) (hw : ∀ x y, wipe (((wipe σ vs).set i (some x)).set j (some y)) vs = wipe σ vs)
    (h0 : ∀ D, H1 D = none → Pv D 0 (upd H1 D (.lst []))) (hl : ∀ D n H, n ≤ xs.length → Pv D n H → SqT K H a xs)
    (hs : ∀ D n x T H, H1 D = none → xs[n]? = some x → Pv D n H → H T = none → tt (((wipe σ vs).set i (some (.int (n : Nat)))).set j (some x)) (upd H T (.tup [.int (n : Nat), x])) fun b H3 =>
      if b = true then te (((wipe σ vs).set i (some (.int (n : Nat)))).set j (some x)) H3 fun y H4 => ∃ acc, H4 D = some (.lst acc) ∧ acc.length < sizeLine ∧ Pv D (n + 1) (upd H4 D (.lst (acc ++ [y]))) else Pv D (n + 1) H3)
    (hd : ∀ D H, H1 D = none → Pv D xs.length H → Q (.ref D) H) : LcGo (IteT K a) (g2 K i j) tt te vs σ H1 Q := by
  intro D hD
  refine ⟨fun n m H => m = xs.length - n ∧ n ≤ xs.length ∧ Pv D n H, ⟨xs.length, by omega, Nat.zero_le _, h0 D hD⟩, ?_⟩
  rintro n m H ⟨rfl, hi, p⟩
  have q := hl D n H hi p
  by_cases hlt : n < xs.length
  · refine .inr ⟨⟨xs, xs[n], q, by simp [hlt]⟩, Pv D (n + 1), fun H' p' => ⟨xs.length - (n + 1), by omega, rfl, hlt, p'⟩, fun x H' yl => ?_⟩
    obtain ⟨T, z, rfl, nT, rfl, ez⟩ := yl
    exact g_pair (tupU upd_same) ⟨hw _ _, hs D n z T H hD (ez xs q) p nT⟩
  · have e2 : n = xs.length := by omega
    subst e2
    exact .inl ⟨⟨xs, q, Nat.le_refl _⟩, hd D H hD p⟩
theorem g_lcE {ta : TA} {g : TG} (q : ta σ H fun us H1 => ∃ a xs, us = [.ref a] ∧ SqT K H1 a xs ∧ LcGo (IteT K a) g tt te vs σ H1 Q) : tLc (iEnumT K ta) g tt te vs σ H Q := q
/-- max of two, list of .., a part of a tuple -/
def rMax2 : List V → Hp → VK → Prop := fun xs H Q => ∃ i j, xs = [.int i, .int j] ∧ Q (.int (if j > i then j else i)) H
theorem call_max2R {X : Cx} (hc : X.calm = true) : CallR X (.builtin "max") rMax2 := call_max2 hc
theorem g_max2 {i j : Int} (q : Q (.int (if j > i then j else i)) H) : rMax2 [.int i, .int j] H Q := ⟨i, j, rfl, q⟩
def rLstOf (K : PySem.W.Frag) : List V → Hp → VK → Prop := fun xs H Q => ∃ p ys, xs = [.ref p] ∧ (SqL K H p ys ∨ SqT K H p ys) ∧ ∀ l, H l = none → Q (.ref l) (upd H l (.lst ys))
theorem call_lstOf {X : Cx} : CallR X (.type "list") (rLstOf X.K) := call_list_of
theorem g_lstOf {a : Addr} {xs : List V} (h : Sq K H a xs) (q : ∀ p H2, H p = none → Same H H2 → H2 p = some (.lst xs) → Q (.ref p) H2) : rLstOf K [.ref a] H Q :=
  ⟨a, xs, rfl, h, fun p hp => q p _ hp (same_new hp) upd_same⟩
theorem sIx_def (n : Nat) (d : Nat) (k : Int) : HT.sIx n d (some k) = HT.sIx n 0 (some k) := rfl
theorem cut_hi {xs : List V} {k : Nat} (h : k ≤ xs.length) : cutV xs none (some (k : Int)) = xs.take k := by
  have e : HT.sIx xs.length xs.length (some (k : Int)) = k := by
    simp only [HT.sIx]
    rw [if_neg (by omega)]
    omega
  unfold cutV
  rw [e]
  show (xs.drop 0).take (k - 0) = _
  rw [List.drop_zero, Nat.sub_zero]
theorem cut_m1 {xs : List V} (h : xs ≠ []) : HT.sIx xs.length xs.length (some (-1)) = xs.length - 1 := by
  have : 0 < xs.length := List.length_pos_iff.mpr h
  simp only [HT.sIx]
  rw [if_pos (by decide)]
  omega
theorem cut_lo1 {xs : List V} : cutV xs (some 1) none = xs.drop 1 := by
  have e2 : HT.sIx xs.length xs.length none = xs.length := rfl
  have e : HT.sIx xs.length 0 (some 1) = min 1 xs.length := by
    simp only [HT.sIx]
    rw [if_neg (by decide)]
    omega
  unfold cutV
  rw [e, e2]
  cases xs with
  | nil => rfl
  | cons z r =>
    rw [show min 1 (z :: r).length = 1 by simp only [List.length_cons]; omega]
    show r.take ((z :: r).length - 1) = r
    simp
theorem g_slTm1 {a : Addr} {xs : List V} (h : SqT K H a xs) (hne : xs ≠ []) (q : ∀ p H2, H p = none → Same H H2 → H2 p = some (.tup (xs.take (xs.length - 1))) → Q (.ref p) H2) : rSlT K (.ref a) none (some (-1)) H Q := by
  have hl : 0 < xs.length := List.length_pos_iff.mpr hne
  have e := cut_m1 hne
  refine ⟨a, xs, rfl, h, fun z => ?_, fun p hp => ?_⟩
  · rw [e] at z
    omega
  · have e2 : cutV xs none (some (-1)) = xs.take (xs.length - 1) := by
      unfold cutV
      rw [e]
      show (xs.drop 0).take (xs.length - 1 - 0) = _
      rw [List.drop_zero, Nat.sub_zero]
    rw [e2]
    exact q p _ hp (same_new hp) upd_same
/-- a place from behind -/
theorem at_m1 {xs : List V} {x : V} (h : xs[xs.length - 1]? = some x) : atI xs (-1) = some x := by
  have hl : xs.length - 1 < xs.length := (List.getElem?_eq_some_iff.mp h).1
  have e : ixN xs.length (-1) = some (xs.length - 1) := by
    unfold ixN
    rw [if_neg (by decide), if_pos (by omega)]
    congr 1
    omega
  unfold atI
  rw [e]
  exact h
theorem g_star {t : TA} {R : List V → Hp → Prop} (q : te σ H fun x H1 => ∃ p xs, x = V.ref p ∧ (SqT K H1 p xs ∨ SqL K H1 p xs) ∧ t σ H1 fun ys H2 => R (xs ++ ys) H2) : StX.tStar K te t σ H R := q
end
theorem pe_globI {X : Cx} {x : Str} {i : Int} {pos : Pos} (hg : Gl X x) (hm : ∃ t, X.mg x = some (.int i t)) (hd : (x == ("__debug__" : Str)) = false := by decide) : PE X (.Name x pos) (tC (.int i)) := by
  obtain ⟨t, e⟩ := hm
  exact pe_glob hg e ⟨t, rfl⟩ hd
/-- f(e, .., k = e, ..): n by place, the rest by names -/
def Pm (x : Str) (st : Stmt) (ps ks : List Str) (n : Nat) : Prop := ∀ (kV doc pm : Value) (an : Option Addr) (cdv ct : Value) (us ws : List Value), us.length = n → ws.length = ks.length →
  bindArgs (PySem.W.fnOf x x (defArgs st) (defBody st) (defScope st) .none kV doc pm an cdv ct) ⟨us, ks.zip ws⟩ = pure (ps.zip (us ++ ws))
section
variable {X : Cx} {k j n : Nat} {ps ks : List Str} {sp : Sp} {x : Str} {p pos : Pos} {e : Expr} {es : List Expr} {t tk : TA} {st : Stmt} {kws : List Keyword}
def tClM (sp : Sp) (n m : Nat) (t tk : TA) : TE := fun σ H Q => t σ H fun vs H1 => tk σ H1 fun zs H2 => vs.length = n ∧ zs.length = m ∧ sp (vs ++ zs) H2 Q E0
theorem pe_fm (c : Cl (cnOf X) k x st ps sp) (hA : X.A.guards = some []) (hr : Room j X.A) (hk : k ≤ j) (hp : Pm x st ps ks n) (hg : Gl X x) (ha : PA X (e :: es) t) (hkw : PK X kws tk)
    (hall : (backToKw pos (keywordEach kws X.env)).all (·.1.isSome) = true := by rfl) (hks : (backToKw pos (keywordEach kws X.env)).filterMap (·.1) = ks := by rfl)
    (hdb : (x == ("__debug__" : Str)) = false := by decide)
    (hpl : ((backTo pos (starEach (e :: es) X.env)).any (·.1) || (backToKw pos (keywordEach kws X.env)).any (·.1.isNone)) = false := by rfl)
    (he : starEach (e :: es) X.env = (false, eval e X.env) :: starEach es X.env := by rfl) :
    PE X (.Call (.Name x p) (e :: es) kws pos) (tClM sp n ks.length t tk) := by
  obtain ⟨f, fd, F, hm, W⟩ := c.ex
  refine ⟨fun pins s σ H Q I h => ?_⟩
  refine wpAny_Call_Name_kw (ld_glob I hg hm ?_ hdb)
  refine PySem.W.callWith_KW (h₀ := X.base) I.ok.mod.kin W.kp hall (thn (ha.run pos pins s σ H _ I h) fun us s1 ⟨vs, H1, I1, rv1, q1⟩ => thn (hkw.run pos pins s1 σ H1 _ I1 q1) ?_) hpl he
  intro ws s2 ⟨zs, H2, I2, rz, l1, l2, q2⟩
  refine ⟨I2.kIn, ?_⟩
  rw [hks]
  have e1 : us.length = n := by rw [← rv1.length]; exact l1
  have e2 : ws.length = ks.length := by rw [← rz.length]; exact l2
  have hb : BindsTo s2 fd ⟨us, ks.zip ws⟩ (ps.zip (us ++ ws)) := by
    obtain ⟨oc, od, kV, doc, pm, an, cdv, ct, osl, rfl, lk, hcd⟩ := W.ex
    exact .of_eq (hp kV doc pm an cdv ct us ws e1 e2)
  have r2 : Vals (vs ++ zs) (us ++ ws) := rv1.append rz
  refine wpAny_call (codeAny_mono (F.go X.A hA X.stack s2 H2 ⟨us, ks.zip ws⟩ (us ++ ws) (vs ++ zs) Q E0 (hr.mono hk) I2.env0 hb r2 q2) ?_)
  intro r s' hq
  cases r with
  | error e => exact pass0 pins σ H2 s2 e s' I2 hq
  | ok fl => cases fl with
    | ret u => exact I2.after hq
    | next => exact hq.elim
    | brk => exact hq.elim
    | cont => exact hq.elim
theorem g_clm {K : PySem.W.Frag} {σ : L2.St} {H : Hp} {Q : VK} {m : Nat} (q : t σ H fun vs H1 => tk σ H1 fun zs H2 => vs.length = n ∧ zs.length = m ∧ sp (vs ++ zs) H2 Q E0) : tClM sp n m t tk σ H Q := q
end
/-! ### promises -/
def RetL (rs : List Rat) (H : Hp) (Q : VK) : Prop := ∀ p H' vs, Same H H' → H p = none → H' p = some (.tup vs) → TL H' vs rs → Q (.ref p) H'
def sp_low (K : PySem.W.Frag) : Sp := fun vs H Q _ => ∃ (u d : Int), vs = [.int u, .int d] ∧ 1 ≤ d ∧ Bt 8000 d ∧ RetT (Rat.divInt u d) H Q
def sp_lbin (f : Rat → Rat → Rat) (K : PySem.W.Frag) : Sp := fun vs H Q _ => ∃ a b r s m n, vs = [.ref a, .ref b] ∧ H a = some (.tup (rv r)) ∧ H b = some (.tup (rv s)) ∧ Rb m r ∧ Rb n s ∧ m + n ≤ 7000 ∧ RetT (f r s) H Q
def sp_lrat (K : PySem.W.Frag) : Sp := fun vs H Q _ => ∃ (q : Addr) (t : Int), vs = [.ref q] ∧ Qy K q t H ∧ t ≤ 999990 ∧
  ∀ t' H' p r, SameX q H H' → Qy K q t' H' → t ≤ t' → t' ≤ t + 5 → H p = none → H' p = some (.tup (rv r)) → Rb 12 r → Q (.ref p) H'
/-- a list at H -/
def isL (H : Hp) (b : Addr) : Prop := ∃ acc, H b = some (.lst acc)
def sp_las (K : PySem.W.Frag) : Sp := fun vs H Q _ => ∃ (q p : Addr) (t : Int) (r : Rat), vs = [.ref q, .ref p] ∧ Qy K q t H ∧ t ≤ 999990 ∧ H p = some (.tup (rv r)) ∧ Rb 100 r ∧
  ∀ t' H' v x y, SameX q H H' → Qy K q t' H' → t ≤ t' → t' ≤ t + 2 → Fz (isL H) H' v x y → 1 ≤ y → Rat.divInt x y = r → Bt 140 x → Bt 140 y → Q v H'
def sp_row (K : PySem.W.Frag) : Sp := fun vs H Q _ => ∃ (q : Addr) (t m : Int), vs = [.ref q, .int m] ∧ Qy K q t H ∧ t ≤ 999000 ∧ 0 ≤ m ∧ m ≤ 100 ∧
  ∀ t' H' p vs' rs, SameX q H H' → Qy K q t' H' → t ≤ t' → t' ≤ t + 1 + 5 * m → H p = none → Qn q p H' → H' p = some (.lst vs') → TL H' vs' rs → RbL 12 rs → (rs.length : Int) ≤ m → Q (.ref p) H'
def sp_trim (K : PySem.W.Frag) : Sp := fun vs H Q _ => ∃ a xs rs, vs = [.ref a] ∧ SqL K H a xs ∧ TL H xs rs ∧ xs.length ≤ 1000 ∧ RetL (trimR rs) H Q
def sp_rpoly (K : PySem.W.Frag) : Sp := fun vs H Q _ => ∃ q a xs ds n part, vs = [.ref a, part] ∧ a ≠ q ∧ Sq K H a xs ∧ DqAll q K H xs ds ∧ (∀ d ∈ ds, isFrD d = true ∧ Bt n (upD d) ∧ Bt n (dnD d)) ∧ n ≤ 7000 ∧ ds.length ≤ 80 ∧ RetL (trimR (ds.map valQ)) H Q
def sp_lprod (K : PySem.W.Frag) : Sp := fun vs H Q _ => ∃ a b xs ys f g A B C, vs = [.ref a, .ref b] ∧ Sq K H a xs ∧ Sq K H b ys ∧ TL H xs f ∧ TL H ys g ∧ RbL A f ∧ RbL B g ∧ (∀ i n, Rb C (cs (co f) (co g) i n)) ∧ 1 ≤ A ∧ 1 ≤ B ∧ A + B + C ≤ 7000 ∧ xs.length ≤ 200 ∧ ys.length ≤ 200 ∧ RetL (trimR (conv f g)) H Q
def sp_lsum (K : PySem.W.Frag) : Sp := fun vs H Q _ => ∃ a b xs ys f g A B, vs = [.ref a, .ref b] ∧ Sq K H a xs ∧ Sq K H b ys ∧ TL H xs f ∧ TL H ys g ∧ RbL A f ∧ RbL B g ∧ 1 ≤ A ∧ 1 ≤ B ∧ A + B ≤ 7000 ∧ xs.length ≤ 200 ∧ ys.length ≤ 200 ∧ RetL (trimR (padd f g)) H Q
end Mf
namespace Mf
open PySem PySem.Spec PyProof.Rows L2
section
variable {K : PySem.W.Frag} {σ : L2.St} {H : Hp} {Q : VK}
theorem for_itc {lo c : Int} {n : Nat} {g : TG} {tb : TS} {D : Ends} (Pv : Nat → L2.St → Hp → Prop) (h0 : Pv 0 σ H)
    (hs : ∀ i σ H, i < n → Pv i σ H → g (.int (lo + (i : Nat) * c)) σ H fun σ2 H2 => tb { D with nx := Pv (i + 1), ct := Pv (i + 1), bk := D.nx } σ2 H2) (hd : ∀ σ H, Pv n σ H → D.nx σ H) :
    ∃ W : Nat → Nat → L2.St → Hp → Prop, (∃ m, W 0 m σ H) ∧ ∀ i m σ H, W i m σ H →
      ((Itc lo c n).stop i H ∧ D.nx σ H) ∨ ((Itc lo c n).go i H ∧ ∃ N : L2.St → Hp → Prop, (∀ σ' H', N σ' H' → ∃ m', m' < m ∧ W (i + 1) m' σ' H') ∧ ∀ x H', (Itc lo c n).yld i H x H' → g x σ H' fun σ2 H2 => tb { D with nx := N, ct := N, bk := D.nx } σ2 H2) := by
  refine ⟨fun i m σ H => m = n - i ∧ i ≤ n ∧ Pv i σ H, ⟨n, by omega, Nat.zero_le _, h0⟩, ?_⟩
  rintro i m σ H ⟨rfl, hi, p⟩
  by_cases hlt : i < n
  · refine .inr ⟨hlt, Pv (i + 1), fun σ' H' p' => ⟨n - (i + 1), by omega, rfl, hlt, p'⟩, fun x H' y => ?_⟩
    obtain ⟨rfl, rfl⟩ := y
    exact hs i σ H' hlt p
  · have e : i = n := by omega
    subst e
    exact .inl ⟨Nat.le_refl _, hd σ H p⟩
theorem fr_at {q a : Addr} {acc : List V} {r : Rat} {n : Nat} (hq : H q = some (.lst acc)) (e : H a = some (.tup (rv r))) (b : Rb n r) : Fr q K H (.ref a) r n :=
  .tup (tupU e) (fun z => by rw [z, hq] at e; cases e) b
end
theorem div_nat (n : Nat) : Rat.divInt (n : Int) 1 = (n : Rat) := by
  have e : Rat.divInt (n : Int) 1 = Rat.divInt (n : Rat).num (n : Rat).den := rfl
  rw [e, Rat.num_divInt_den]
theorem rv_nat (n : Nat) : rv (n : Rat) = [.int (n : Int), .int 1] := rfl
def fullS (l : List Rat) : List Rat := (List.range l.length).map fun (n : Nat) => (n : Rat) * co l n
theorem len_full (l : List Rat) : (fullS l).length = l.length := by simp [fullS]
theorem get_full {l : List Rat} {n : Nat} (h : n < l.length) : (fullS l)[n]? = some ((n : Rat) * co l n) := by
  unfold fullS
  rw [List.getElem?_map, List.getElem?_range h]
  rfl
theorem get_slope {l : List Rat} {n : Nat} (h : n + 1 < l.length) : (slope l)[n]? = some (((n + 1 : Nat) : Rat) * co l (n + 1)) := by
  unfold slope
  rw [List.getElem?_map, List.getElem?_range (by omega)]
  rfl
theorem drop_full (l : List Rat) (j : Nat) : co ((fullS l).drop 1) j = co (slope l) j := by
  by_cases h : j + 1 < l.length
  · rw [co_some (get_slope h), co_some (r := ((j + 1 : Nat) : Rat) * co l (j + 1))]
    rw [List.getElem?_drop, show 1 + j = j + 1 by omega]
    exact get_full h
  · rw [co_ge (by rw [List.length_drop, len_full]; omega), co_ge (l := slope l) (by rw [len_slope]; omega)]
theorem get_dlow {g rest : List Rat} {s n : Nat} (h : n < g.length - 1) : (dlow g rest s)[n]? = some (co rest (s + n) - dsh g rest * co g n) := by
  unfold dlow
  rw [List.getElem?_map, List.getElem?_range h]
  rfl
theorem Rb_nat {n : Nat} (h : n < 2 ^ 10) : Rb 10 (n : Rat) := ⟨by show (n : Int).natAbs < _; rw [Int.natAbs_natCast]; exact h, by show (1 : Int).natAbs < 2 ^ 10; decide⟩
/-- what a division hands back -/
def RetP (f g : List Rat) (H : Hp) (Q : VK) : Prop := ∀ p H' p1 p2 vs1 vs2, Same H H' → H p = none → H' p = some (.tup [.ref p1, .ref p2]) → H' p1 = some (.tup vs1) → H' p2 = some (.tup vs2) →
  TL H' vs1 (trimR (drun g (f.length + 1 - g.length) (List.replicate (f.length + 1 - g.length) 0) f).1) → TL H' vs2 (trimR (drun g (f.length + 1 - g.length) (List.replicate (f.length + 1 - g.length) 0) f).2) → Q (.ref p) H'
def sp_parted (K : PySem.W.Frag) : Sp := fun vs H Q _ => ∃ a b xs ys f g B, vs = [.ref a, .ref b] ∧ H a = some (.tup xs) ∧ H b = some (.tup ys) ∧ TL H xs f ∧ TL H ys g ∧ g ≠ [] ∧ co g (g.length - 1) ≠ 0 ∧ 1 ≤ B ∧ B ≤ 2300 ∧ RbL B g ∧
  dfits B g (f.length + 1 - g.length) f ∧ f.length ≤ 100 ∧ g.length ≤ 100 ∧ RetP f g H Q
def sp_pparted (K : PySem.W.Frag) : Sp := fun vs H Q _ => ∃ q a b xs ys ds es n f g B, vs = [.ref a, .ref b] ∧ a ≠ q ∧ b ≠ q ∧ Sq K H a xs ∧ Sq K H b ys ∧ DqAll q K H xs ds ∧ DqAll q K H ys es ∧
  (∀ d ∈ ds, isFrD d = true ∧ Bt n (upD d) ∧ Bt n (dnD d)) ∧ (∀ d ∈ es, isFrD d = true ∧ Bt n (upD d) ∧ Bt n (dnD d)) ∧ n ≤ 7000 ∧ ds.length ≤ 80 ∧ es.length ≤ 80 ∧ f = trimR (ds.map valQ) ∧ g = trimR (es.map valQ) ∧ g ≠ [] ∧ 1 ≤ B ∧ B ≤ 2300 ∧ RbL B g ∧
  dfits B g (f.length + 1 - g.length) f ∧ RetP f g H Q
def sp_slope (K : PySem.W.Frag) : Sp := fun vs H Q _ => ∃ q a xs ds n, vs = [.ref a] ∧ a ≠ q ∧ Sq K H a xs ∧ DqAll q K H xs ds ∧ (∀ d ∈ ds, isFrD d = true ∧ Bt n (upD d) ∧ Bt n (dnD d)) ∧ 1 ≤ n ∧ n ≤ 6000 ∧ ds.length ≤ 80 ∧ RetL (slope (trimR (ds.map valQ))) H Q
def sp_lslope (K : PySem.W.Frag) : Sp := fun vs H Q _ => ∃ a xs rs n, vs = [.ref a] ∧ H a = some (.tup xs) ∧ TL H xs rs ∧ RbL n rs ∧ 1 ≤ n ∧ n ≤ 6000 ∧ xs.length ≤ 100 ∧ RetL (trimR (slope rs)) H Q
end Mf
namespace Mf
open PySem PySem.Spec PyProof.Rows L2
/-! ### what the laws say of polynomials -/
theorem co_rep (N n : Nat) : co (List.replicate N 0) n = 0 := by
  by_cases z : n < N
  · rw [co_get (by rw [List.length_replicate]; exact z), List.getElem_replicate]
  · exact co_ge (by rw [List.length_replicate]; omega)
theorem pc_rep (N : Nat) (b : Nat → Rat) (n : Nat) : pc (co (List.replicate N 0)) b n = 0 := by
  rw [← cs_pc _ b n 0 fun k _ => co_rep N k]
  rfl
abbrev dQ (f g : List Rat) : List Rat := trimR (drun g (f.length + 1 - g.length) (List.replicate (f.length + 1 - g.length) 0) f).1
abbrev dR (f g : List Rat) : List Rat := trimR (drun g (f.length + 1 - g.length) (List.replicate (f.length + 1 - g.length) 0) f).2
theorem d_spec {f g : List Rat} (hg : g ≠ []) (hl : co g (g.length - 1) ≠ 0) : (dQ f g).length ≤ f.length + 1 - g.length ∧ (dR f g).length < g.length ∧ ∀ n, pc (co (dQ f g)) (co g) n + co (dR f g) n = co f n := by
  have g0 : 0 < g.length := List.length_pos_iff.mpr hg
  obtain ⟨h1, h2, h3⟩ := drun_spec hg hl (f.length + 1 - g.length) (List.replicate (f.length + 1 - g.length) 0) f (by rw [List.length_replicate]; exact Nat.le_refl _) (by omega) (fun k _ => co_rep _ k)
  refine ⟨?_, ?_, fun n => ?_⟩
  · have := len_trim_le (drun g (f.length + 1 - g.length) (List.replicate (f.length + 1 - g.length) 0) f).1
    rw [h1, List.length_replicate] at this
    exact this
  · exact Nat.lt_of_le_of_lt (len_trim_le _) h2
  · rw [co_trim, pc_congr (co_trim _) (fun _ => rfl), h3 n, pc_rep, Rat.zero_add]
theorem d_back {f g : List Rat} (hf : Tr f) (hg : g ≠ []) (hl : co g (g.length - 1) ≠ 0) : trimR (padd (trimR (conv (dQ f g) g)) (dR f g)) = f := by
  refine (tr_trim _).ext hf fun n => ?_
  rw [co_trim, co_padd, co_trim, co_conv]
  exact (d_spec hg hl).2.2 n
theorem d_of {f g a r : List Rat} (hg : g ≠ []) (hl : co g (g.length - 1) ≠ 0) (ha : Tr a) (hr : Tr r) (lr : r.length < g.length) (h : ∀ n, pc (co a) (co g) n + co r n = co f n) : dQ f g = a ∧ dR f g = r := by
  obtain ⟨h1, h2, h3⟩ := d_spec (f := f) hg hl
  obtain ⟨u1, u2⟩ := div_uniq hg hl (d := fun k => co (dQ f g) k - co a k) (e := fun k => co (dR f g) k - co r k) (N := max (dQ f g).length a.length)
    (fun k hk => by rw [co_ge (l := dQ f g) (by omega), co_ge (l := a) (by omega)]; grind) (fun k hk => by rw [co_ge (l := dR f g) (by omega), co_ge (l := r) (by omega)]; grind)
    (fun n => by
      rw [pc_sub_left]
      have e1 := h3 n
      have e2 := h n
      grind)
  refine ⟨(tr_trim _).ext ha fun k => ?_, (tr_trim _).ext hr fun k => ?_⟩
  · have := u1 k
    grind
  · have := u2 k
    grind
theorem slope_prod (a b : List Rat) : slope (trimR (conv a b)) = trimR (padd (trimR (conv (trimR (slope a)) b)) (trimR (conv a (trimR (slope b))))) := by
  refine (tr_slope (tr_trim _)).ext (tr_trim _) fun n => ?_
  rw [co_slope, co_trim, co_padd, co_trim, co_trim, co_conv, co_conv]
  unfold slp
  rw [co_trim, co_conv, slp_cs]
  rw [pc_congr (a := co (trimR (slope a))) (a' := slp (co a)) (fun i => by rw [co_trim, co_slope]) (fun _ => rfl), pc_congr (a := co a) (b := co (trimR (slope b))) (b' := slp (co b)) (fun _ => rfl) (fun i => by rw [co_trim, co_slope])]
theorem trim_snoc0 (l : List Rat) : trimR (l ++ [0]) = trimR l := trim_eq fun n => by
  rw [co_append]
  by_cases z : n < l.length
  · rw [if_pos z]
  · rw [if_neg z, co_ge (l := l) (by omega)]
    by_cases z2 : n - l.length = 0
    · rw [z2]
      rfl
    · exact co_ge (by simp; omega)
/-- sizes of drawn ones -/
theorem fits1 {f g : List Rat} (bf : RbL 12 f) (bg : RbL 12 g) (lf : f.length ≤ 9) (lg : g.length ≤ 4) (hg : g ≠ []) (hl : co g (g.length - 1) ≠ 0) : dfits 800 g (f.length + 1 - g.length) f := by
  have g0 : 0 < g.length := List.length_pos_iff.mpr hg
  obtain ⟨W, w1, w2, w3⟩ := sc_of bf
  obtain ⟨D, d1, d2, d3⟩ := sc_of bg
  refine dfits_of hg hl (d := 49) (kg := 61) d1 (d2.mono (by omega)) (fun i => (d3 i).mono (by omega)) _ f W 109 121 (by omega) w1 (w2.mono (by omega)) (fun i => (w3 i).mono (by omega)) ?_ ?_ <;> omega
theorem fits2 {f g r h : List Rat} (bf : RbL 12 f) (bg : RbL 12 g) (br : RbL 12 r) (lf : f.length ≤ 9) (lg : g.length ≤ 4) (lr : r.length ≤ 3) (hg : g ≠ []) (hl : co g (g.length - 1) ≠ 0) (lh : h.length + 1 - g.length ≤ 9) (e : ∀ n, pc (co f) (co g) n + co r n = co h n) :
    dfits 1000 g (h.length + 1 - g.length) h := by
  have g0 : 0 < g.length := List.length_pos_iff.mpr hg
  obtain ⟨W, w1, w2, w3⟩ := sc_of bf
  obtain ⟨D, d1, d2, d3⟩ := sc_of bg
  obtain ⟨V, v1, v2, v3⟩ := sc_of br
  have bW : Bt 109 W := w2.mono (by omega)
  have bD : Bt 49 D := d2.mono (by omega)
  have bV : Bt 37 V := v2.mono (by omega)
  have WD := mul_ge1 w1 d1
  refine dfits_of hg hl (d := 49) (kg := 61) d1 bD (fun i => (d3 i).mono (by omega)) _ h (W * D * V) 195 229 (by omega) (mul_ge1 WD v1) (((bW.mul bD).mul bV).mono (by omega)) (fun i => ?_) (by omega) (by omega)
  rw [← e i, ← cs_co]
  have s1 := (sc_pc w1 d1 (fun i => (w3 i).mono (show _ ≤ 121 by omega)) (fun i => (d3 i).mono (show _ ≤ 61 by omega)) f.length i).scale WD v1 bV
  have s2 := (v3 i).scale v1 WD (bW.mul bD)
  rw [Int.mul_comm] at s2
  exact ((s1.mono (show _ ≤ 228 by omega)).add (s2.mono (show _ ≤ 228 by omega)) (mul_ge1 WD v1)).mono (by omega)
theorem len_whole {f g r : List Rat} (lf : f.length ≤ 9) (g0 : 0 < g.length) (lr : r.length < g.length) : (trimR (padd (trimR (conv f g)) r)).length + 1 - g.length ≤ 9 := by
  have h1 := len_trim_le (padd (trimR (conv f g)) r)
  rw [len_padd] at h1
  have h2 := len_trim_le (conv f g)
  rw [len_conv] at h2
  omega
theorem rds_val : ∀ rs : List Rat, (rs.map rd).map valQ = rs
  | [] => rfl
  | r :: rs => by
    rw [List.map_cons, List.map_cons, rd_val, rds_val rs]
theorem rds_ok {n : Nat} {rs : List Rat} (h : RbL n rs) : ∀ d ∈ rs.map rd, isFrD d = true ∧ Bt n (upD d) ∧ Bt n (dnD d) := by
  intro d hd
  obtain ⟨r, hr, rfl⟩ := List.mem_map.mp hd
  exact ⟨rd_fr r, (h r hr).1, (h r hr).2⟩
theorem RbL.of_val {n : Nat} {ds : List PyData} {rs : List Rat} (h : ∀ d ∈ ds, isFrD d = true ∧ Bt n (upD d) ∧ Bt n (dnD d)) (e : ds.map valQ = rs) : RbL n rs := by
  intro r hr
  rw [← e] at hr
  obtain ⟨d, hd, rfl⟩ := List.mem_map.mp hr
  obtain ⟨f1, f2, f3⟩ := h d hd
  exact Rb.of (fr_dn f1) f2 f3
/-! ### steps -/
section
variable {K : PySem.W.Frag} {σ : L2.St} {H H1 : Hp} {Q : VK} {te : TE} {tt : TT} {vs : List Nat} {q p : Addr}
theorem cut_P (P : V → Hp → Prop) (h1 : ∀ Q' : VK, (∀ v H', P v H' → Q' v H') → te σ H Q') (h2 : ∀ v H', P v H' → Q v H') : te σ H Q := h1 Q h2
theorem g_lcTu {g : TG} {tl : TE} (h : tl σ H fun x H1 => ∃ a, x = .ref a ∧ (∃ xs, SqT K H1 a xs) ∧ LcGo (Itt K a) g tt te vs σ H1 Q) : tLc (iTup K tl) g tt te vs σ H Q := h
theorem dq_poly {acc ws : List V} {rs : List Rat} (hq : H q = some (.lst acc)) (e : H p = some (.tup ws)) (t : TL H ws rs) : Dq q K H (.ref p) (.tuple (rs.map rd)) :=
  .tup (fun z => by rw [z, hq] at e; cases e) (tupU e) (TL.data hq t)
/-- a comprehension of fractions told in some way -/
theorem lc_as {i1 j : Nat} {t : Int} {ws : List V} {rs : List Rat} (hq : Qy K q t H) (ht : t ≤ 900000) (ep : H p = some (.tup ws)) (tl : TL H ws rs) (b : RbL 100 rs) (l : rs.length ≤ 200)
    (hw : ∀ x, wipe ((wipe σ vs).set j (some x)) vs = wipe σ vs) (h1 : ∀ x, ((wipe σ vs).set j (some x))[i1]? = some (some (.ref q))) (h2 : ∀ x, ((wipe σ vs).set j (some x))[j]? = some (some x))
    (k : ∀ D H' t' xs ds, SameX q H H' → Qy K q t' H' → t ≤ t' → t' ≤ t + 2 * (rs.length : Int) → H D = none → D ≠ q → H' D = some (.lst xs) → DqAll q K H' xs ds → (∀ d ∈ ds, isFrD d = true ∧ Bt 140 (upD d) ∧ Bt 140 (dnD d)) → ds.map valQ = rs → Q (.ref D) H') :
    LcGo (Itt K p) (gName j) tYes (tCl (sp_las K) (tCons (tVar i1) (tCons (tVar j) tNil))) vs σ H Q := by
  have lw := tl.len
  refine lcgo_tupF (xs := ws) (fun D i H' => ∃ t' xs fs, Qy K q t' H' ∧ t ≤ t' ∧ t' ≤ t + 2 * (i : Int) ∧ Qn q D H' ∧ SameX q H H' ∧ H' D = some (.lst xs) ∧ xs.length = i ∧ FzAll (fun b => b = q ∨ b = D) H' xs fs ∧ fs.map Fq.q = rs.take i) hw
    (fun D hD => ⟨t, [], [], hq.upd (Qn.new hq hD) (hq.ne hD), by omega, by omega, Qn.upd hq (Qn.new hq hD) (hq.ne hD), Same.x (same_new hD), upd_same, rfl, .nil, rfl⟩)
    (fun D i H' _ h => ?_) (fun D i x H' hD ex h => ?_) (fun D H' hD h => ?_)
  · obtain ⟨t', xs, fs, hq', _, _, _, sx, _⟩ := h
    exact tupU (sx.kt hq _ _ ep)
  · obtain ⟨t', xs, fs, hq', lt', ut', hn', sx, eD, lv, hall, ev⟩ := h
    have hi := (List.getElem?_eq_some_iff.mp ex).1
    have kx := sx.kt hq
    obtain ⟨pi, rfl, ei, gi⟩ := (tl.go kx).get ex
    have nD : D ≠ q := hq.ne hD
    refine g_yes ?_
    refine g_iteT ?_
    refine g_cl (g_cons (g_var (h1 _) (g_cons (g_var (h2 _) (g_nil ?_)))))
    refine ⟨q, pi, t', co rs i, rfl, hq', by omega, ei, b.co (by decide) i, fun t6 H6 v x y sx6 hq6 l6 u6 hz hy er bx by_ => ?_⟩
    have hn6 := hn'.go hq' sx6
    have eD6 := sx6 _ _ nD eD
    refine ⟨xs, eD6, small1000 (by omega), t6, xs ++ [v], fs ++ [⟨x, y, hy, bx, by_⟩], hq6.upd hn6 nD, by omega, by omega, Qn.upd hq6 hn6 nD, ?_, upd_same, by rw [List.length_append, lv]; rfl,
      FzAll.app (f := ⟨x, y, hy, bx, by_⟩) (hz.go fun b o nb eb => ?_) (hall.go fun b o nb eb => ⟨?_, nb⟩), ?_⟩
    · refine ⟨fun b o nb e => ?_, fun c w z e => ?_⟩
      · rw [upd_ne (ne_of_none e hD)]
        exact (sx.trans sx6).kept b o nb e
      · obtain ⟨w', z', e'⟩ := (sx.trans sx6).cell c w z e
        exact ⟨w', z', by rw [upd_ne nD.symm]; exact e'⟩
    · have nbq : b ≠ q := fun z => nb (by obtain ⟨c, ns, r, e1, _⟩ := hq'; rw [z]; exact ⟨_, e1⟩)
      have nbD : b ≠ D := fun z => nb (by rw [z]; exact ⟨_, eD⟩)
      refine ⟨by rw [upd_ne nbD]; exact eb, fun z => ?_⟩
      rcases z with z | z
      · exact nbq z
      · exact nbD z
    · rw [upd_ne (fun z => nb (.inr z))]
      exact sx6 _ _ (fun z => nb (.inl z)) eb
    · rw [List.map_append, ev, take_snoc gi]
      show rs.take i ++ [Fq.q ⟨x, y, hy, bx, by_⟩] = _
      unfold Fq.q
      rw [er]
  · obtain ⟨t', xs, fs, hq', lt', ut', hn', sx, eD, lv, hall, ev⟩ := h
    obtain ⟨ds, hds, hok, eds⟩ := hall.dq (K := K) (q := q) (.inl rfl)
    rw [lw, List.take_length] at ev
    exact k D H' t' xs ds sx hq' lt' (by rw [← lw]; exact ut') hD (hq.ne hD) eD hds hok (eds.trans ev)
/-- lists of polynomials -/
inductive PL (H : Hp) : List V → List (List Rat) → Prop
  | nil : PL H [] []
  | cons {a : Addr} {ws vs : List V} {r : List Rat} {rs : List (List Rat)} : H a = some (.tup ws) → TL H ws r → PL H vs rs → PL H (.ref a :: vs) (r :: rs)
theorem PL.go {H H' : Hp} (s : KeepT H H') : ∀ {vs : List V} {rs : List (List Rat)}, PL H vs rs → PL H' vs rs
  | _, _, .nil => .nil
  | _, _, .cons e t r => .cons (s _ _ e) (t.go s) (PL.go s r)
theorem PL.snoc {a : Addr} {ws : List V} {r : List Rat} (e : H a = some (.tup ws)) (t : TL H ws r) : ∀ {vs : List V} {rs : List (List Rat)}, PL H vs rs → PL H (vs ++ [.ref a]) (rs ++ [r])
  | _, _, .nil => .cons e t .nil
  | _, _, .cons e2 t2 l => .cons e2 t2 (PL.snoc e t l)
theorem PL.get {H : Hp} : ∀ {vs : List V} {rs : List (List Rat)} {i : Nat} {v : V}, PL H vs rs → vs[i]? = some v → ∃ a ws r, v = .ref a ∧ H a = some (.tup ws) ∧ TL H ws r ∧ rs[i]? = some r
  | _, _, _, _, .nil, h => by cases h
  | _, _, 0, _, .cons e t _, h => by
    cases h
    exact ⟨_, _, _, rfl, e, t, rfl⟩
  | _, _, i + 1, v, .cons _ _ l, h => by
    obtain ⟨a, ws, r, h1, h2, h3, h4⟩ := PL.get (i := i) (v := v) l h
    exact ⟨a, ws, r, h1, h2, h3, h4⟩
theorem PL.len {H : Hp} : ∀ {vs : List V} {rs : List (List Rat)}, PL H vs rs → vs.length = rs.length
  | _, _, .nil => rfl
  | _, _, .cons _ _ l => congrArg Nat.succ (PL.len l)
def pd (r : List Rat) : PyData := .tuple (r.map rd)
theorem PL.dp {H : Hp} : ∀ {vs : List V} {rs : List (List Rat)}, PL H vs rs → DpAll K H vs (rs.map pd)
  | _, _, .nil => .nil
  | _, _, .cons e t l => .cons (.tup (tupU e) t.dp) (PL.dp l)
theorem PL.data {H : Hp} {acc : List V} (hq : H q = some (.lst acc)) : ∀ {vs : List V} {rs : List (List Rat)}, PL H vs rs → DqAll q K H vs (rs.map pd)
  | _, _, .nil => .nil
  | _, _, .cons e t l => .cons (dq_poly hq e t) (PL.data hq l)
theorem pl2 {a b : Addr} {wa wb : List V} {ra rb : List Rat} (ea : H a = some (.tup wa)) (ta : TL H wa ra) (eb : H b = some (.tup wb)) (tb : TL H wb rb) : PL H [.ref a, .ref b] [ra, rb] := .cons ea ta (.cons eb tb .nil)
end
/-- two polynomials, shown -/
theorem sha_two {n L1 L2 : Nat} (hn : 1 ≤ n) (l : n ≤ 1900) {a b : List Rat} (ha : RbL n a) (hb : RbL n b) (la : a.length ≤ L1) (lb : b.length ≤ L2) :
    ShA (n + 1) (L1 * (2 * n + 4) + 1 + 1 + (L2 * (2 * n + 4) + 1 + 1 + 0)) 3 [pd a, pd b] := sha_cons (shn_poly hn l ha la) (sha_cons (shn_poly hn l hb lb) (sha_nil (W := 0)))
end Mf
namespace Mf
open PySem PySem.Spec PyProof.Rows L2
theorem rbl_slope {n : Nat} {l : List Rat} (h : RbL n l) (hn : 1 ≤ n) (hl : l.length ≤ 1000) : RbL (10 + n) (slope l) := RbL.of_co fun i hi => by
  rw [len_slope] at hi
  rw [co_slope]
  exact (Rb_nat (by omega)).mul (h.co hn _)
theorem ne_tl {H : Hp} {p q : Addr} {acc ws : List V} (hq : H q = some (.lst acc)) (e : H p = some (.tup ws)) : p ≠ q := fun z => by
  rw [z, hq] at e
  cases e
theorem ne_new {H : Hp} {p q : Addr} {acc : List V} (hq : H q = some (.lst acc)) (e : H p = none) : p ≠ q := fun z => by
  rw [z, hq] at e
  cases e
theorem tr_one {r : Rat} (h : r ≠ 0) : Tr [r] := fun _ => h
theorem tr_two {a r : Rat} (h : r ≠ 0) : Tr [a, r] := fun _ => h
theorem bt_lit {n : Nat} {i : Int} (h : i.natAbs < 8) (hn : 3 ≤ n) : Bt n i := Bt.mono (m := 3) h hn
end Mf
namespace Mf
open PySem PySem.Spec PyProof.Rows L2
/-! ### lcm; one down for all -/
def rLcm : List V → Hp → VK → Prop := fun vs H Q => ∃ a b : Int, vs = [.int a, .int b] ∧ Bt 5000 a ∧ Bt 5000 b ∧ Q (.int ((Nat.lcm a.natAbs b.natAbs : Nat) : Int)) H
theorem lcm_lt {a b m n : Nat} (ha : a < 2 ^ m) (hb : b < 2 ^ n) : Nat.lcm a b < 2 ^ (m + n) := by
  by_cases z : a * b = 0
  · have e : Nat.lcm a b = 0 := by
      unfold Nat.lcm
      rw [z, Nat.zero_div]
    rw [e]
    exact Nat.two_pow_pos _
  · exact Nat.lt_of_le_of_lt (Nat.le_of_dvd (Nat.pos_of_ne_zero z) (Nat.lcm_dvd (Nat.dvd_mul_right a b) (Nat.dvd_mul_left b a))) (by rw [Nat.pow_add]; exact Nat.mul_lt_mul'' ha hb)
theorem cr_lcm {X : Cx} : CallR X (.builtin "math.lcm") rLcm := by
  intro pins s σ H vs us Q I r h
  obtain ⟨a, b, rfl, ha, hb, q⟩ := h
  obtain ⟨t, u, rfl⟩ := Vals.int2 r
  have lg : ∀ {n : Nat}, n < 2 ^ 5000 → n.log2 < 5000 := fun {n} h => by
    by_cases z : n = 0
    · rw [z, Nat.log2_zero]
      decide
    · exact (Nat.log2_lt z).mpr h
  have e : (Nat.lcm 1 a.natAbs).lcm b.natAbs = Nat.lcm a.natAbs b.natAbs := by rw [Nat.lcm_one_left]
  have l1 : (max 1 a.natAbs).log2 < 5000 := lg (by
    have : 1 < 2 ^ 5000 := Nat.one_lt_two_pow (by decide)
    have := show a.natAbs < 2 ^ 5000 from ha
    omega)
  have l2 : (max a.natAbs b.natAbs).log2 < 5000 := lg (by
    have := show a.natAbs < 2 ^ 5000 from ha
    have := show b.natAbs < 2 ^ 5000 from hb
    omega)
  have l3 : ((((Nat.lcm 1 a.natAbs).lcm b.natAbs : Nat) : Int)).natAbs.log2 < bitsLine := by
    rw [Int.natAbs_natCast, e]
    have h := lcm_lt (show a.natAbs < 2 ^ 5000 from ha) (show b.natAbs < 2 ^ 5000 from hb)
    have h2 : (Nat.lcm a.natAbs b.natAbs).log2 < 10000 := by
      by_cases z : Nat.lcm a.natAbs b.natAbs = 0
      · rw [z, Nat.log2_zero]
        decide
      · exact (Nat.log2_lt z).mpr h
    exact Nat.lt_of_lt_of_le h2 (by decide +kernel)
  have g := PySem.W.mg_run_lcm a t b u (by omega) (by omega) l3
  rw [e] at g
  exact call_function_meets PySem.W.MGF.kind_lcm PySem.W.MGF.plain_lcm PySem.W.MGF.entry_lcm (PySem.W.MGF.args_lcm _ _) g.meets ⟨.int _, H, I.tok _, ⟨_, rfl⟩, q⟩
/-- xs[i] op= e -/
def rGetL (K : PySem.W.Frag) : V → V → Hp → VK → Prop := fun o i H Q => ∃ (a : Addr) (xs : List V) (k : Nat) (v : V), o = .ref a ∧ i = .int (k : Int) ∧ SqL K H a xs ∧ xs[k]? = some v ∧ Q v H
theorem pget_list {X : Cx} : PGet X (rGetL X.K) := by
  intro pins s σ H o i ov iv Q I ro ri h
  obtain ⟨a, xs, k, v, rfl, rfl, hq, he, q⟩ := h
  obtain rfl : ov = Value.ref a := ro
  obtain ⟨t, rfl⟩ := ri
  obtain ⟨its, r, pl, hz⟩ := I.list hq
  obtain ⟨w, ew, rw'⟩ := r.get he
  have hl := r.length
  have hk := (List.getElem?_eq_some_iff.mp he).1
  have hn := line63
  exact wpAny_getItem_list pl.isList (by omega) (by omega) (by simpa using ew) ⟨v, H, I, rw', q⟩
def lcmL (rs : List Rat) : Nat := rs.foldl (fun d r => Nat.lcm d r.den) 1
theorem lcmL_snoc (rs : List Rat) (r : Rat) : lcmL (rs ++ [r]) = Nat.lcm (lcmL rs) r.den := by
  unfold lcmL
  rw [List.foldl_append]
  rfl
theorem lcmL_pos (rs : List Rat) : 0 < lcmL rs := by
  have key : ∀ (rs : List Rat) (d : Nat), 0 < d → 0 < rs.foldl (fun d r => Nat.lcm d r.den) d := by
    intro rs
    induction rs with
    | nil => exact fun d h => h
    | cons r rs ih => exact fun d h => ih _ (Nat.lcm_pos h r.den_pos)
  exact key rs 1 (by decide)
theorem dvd_fold : ∀ (rs : List Rat) (d : Nat), d ∣ rs.foldl (fun d r => Nat.lcm d r.den) d ∧ ∀ r ∈ rs, r.den ∣ rs.foldl (fun d r => Nat.lcm d r.den) d
  | [], d => ⟨Nat.dvd_refl d, fun r h => absurd h List.not_mem_nil⟩
  | r :: rs, d => by
    obtain ⟨h1, h2⟩ := dvd_fold rs (Nat.lcm d r.den)
    refine ⟨Nat.dvd_trans (Nat.dvd_lcm_left _ _) h1, fun x hx => ?_⟩
    rcases List.mem_cons.mp hx with rfl | hx
    · exact Nat.dvd_trans (Nat.dvd_lcm_right _ _) h1
    · exact h2 x hx
theorem lcmL_lt {n : Nat} : ∀ {rs : List Rat} {d m : Nat}, RbL n rs → d < 2 ^ m → rs.foldl (fun d r => Nat.lcm d r.den) d < 2 ^ (m + rs.length * n)
  | [], d, m, _, h => by simpa using h
  | r :: rs, d, m, hb, h => by
    have hr : r.den < 2 ^ n := by
      have := (hb r List.mem_cons_self).2
      unfold Bt at this
      rw [Int.natAbs_natCast] at this
      exact this
    have := lcmL_lt (rs := rs) (fun x hx => hb x (List.mem_cons_of_mem _ hx)) (lcm_lt h hr)
    rw [List.length_cons, Nat.succ_mul]
    rw [show m + (rs.length * n + n) = m + n + rs.length * n by omega]
    exact this
theorem lcmL_bt {n : Nat} {rs : List Rat} (h : RbL n rs) : Bt (rs.length * n + 1) (lcmL rs : Int) := by
  show (lcmL rs : Int).natAbs < _
  rw [Int.natAbs_natCast, Nat.add_comm]
  exact lcmL_lt (m := 1) h (by decide)
theorem one_down {r : Rat} {D : Nat} (hD : 0 < D) (h : r.den ∣ D) : Rat.divInt (r.num * ((D : Int) / (r.den : Int))) D = r := by
  obtain ⟨c, rfl⟩ := h
  have d0 := r.den_pos
  have c0 : 0 < c := Nat.pos_of_mul_pos_left hD
  have e : ((r.den * c : Nat) : Int) / (r.den : Int) = (c : Int) := by
    rw [Int.natCast_mul, Int.mul_ediv_cancel_left _ (by omega)]
  rw [e, Int.natCast_mul, Rat.divInt_mul_right (by omega), Rat.num_divInt_den]
theorem len_lead {a b : List Rat} (hb : b ≠ []) (k : Nat) (hk : k + 1 = a.length) : pc (co a) (co b) (k + (b.length - 1)) = co a k * co b (b.length - 1) := by
  have hb0 : 0 < b.length := List.length_pos_iff.mpr hb
  rw [← cs_pc (co a) (co b) (k + (b.length - 1)) (k + 1) fun i hi => co_ge (by omega)]
  have low : ∀ i, i ≤ k → cs (co a) (co b) i (k + (b.length - 1)) = 0 := by
    intro i
    induction i with
    | zero => intro _; rfl
    | succ i ih2 =>
      intro hi
      rw [cs_succ, ih2 (by omega), if_pos (by omega), co_ge (l := b) (by omega)]
      grind
  rw [cs_succ, low k (Nat.le_refl k), if_pos (by omega), Rat.zero_add, show k + (b.length - 1) - k = b.length - 1 by omega]
theorem tr_conv {a b : List Rat} (ha : Tr a) (hb : Tr b) (na : a ≠ []) (nb : b ≠ []) : Tr (conv a b) := by
  intro hne
  have a0 : 0 < a.length := List.length_pos_iff.mpr na
  have b0 : 0 < b.length := List.length_pos_iff.mpr nb
  rw [co_conv, len_conv, show a.length + b.length - 1 - 1 = (a.length - 1) + (b.length - 1) by omega, len_lead nb (a.length - 1) (by omega)]
  intro z
  rcases Rat.mul_eq_zero.mp z with e | e
  · exact ha na e
  · exact hb nb e
/-! ### values -/
def evs (c : Nat → Rat) (x : Rat) : Nat → Rat
  | 0 => 0
  | i + 1 => evs c x i + c i * x ^ i
def hor (c : Nat → Rat) (x : Rat) : Nat → Nat → Rat
  | _, 0 => 0
  | k, n + 1 => hor c x (k + 1) n * x + c k
theorem hor_snoc (c : Nat → Rat) (x : Rat) : ∀ (n k : Nat), hor c x k n = evs (fun i => c (k + i)) x n
  | 0, k => rfl
  | n + 1, k => by
    show hor c x (k + 1) n * x + c k = _
    rw [hor_snoc c x n (k + 1)]
    have key : ∀ m, evs (fun i => c (k + i)) x (m + 1) = evs (fun i => c (k + 1 + i)) x m * x + c k := by
      intro m
      induction m with
      | zero =>
        show 0 + c (k + 0) * x ^ 0 = 0 * x + c k
        rw [Rat.pow_zero, Nat.add_zero]
        grind
      | succ m ih =>
        show evs (fun i => c (k + i)) x (m + 1) + c (k + (m + 1)) * x ^ (m + 1) = (evs (fun i => c (k + 1 + i)) x m + c (k + 1 + m) * x ^ m) * x + c k
        rw [ih, Rat.pow_succ, show k + (m + 1) = k + 1 + m by omega]
        grind
    rw [key n]
theorem evs_stop {c : Nat → Rat} {x : Rat} {m : Nat} (h : ∀ k, m ≤ k → c k = 0) : ∀ n, m ≤ n → evs c x n = evs c x m
  | 0, hn => by
    have : m = 0 := by omega
    rw [this]
  | n + 1, hn => by
    by_cases e : m = n + 1
    · rw [e]
    · show evs c x n + c n * x ^ n = _
      rw [evs_stop h n (by omega), h n (by omega), Rat.zero_mul, Rat.add_zero]
def val (l : List Rat) (x : Rat) : Rat := evs (co l) x l.length
theorem val_ge {l : List Rat} {x : Rat} {n : Nat} (h : l.length ≤ n) : evs (co l) x n = val l x := evs_stop (fun k hk => co_ge hk) n h
theorem evs_congr {c d : Nat → Rat} (h : ∀ i, c i = d i) (x : Rat) (n : Nat) : evs c x n = evs d x n := by rw [funext h]
theorem val_co {a b : List Rat} (h : ∀ i, co a i = co b i) (x : Rat) : val a x = val b x := by
  rw [← val_ge (l := a) (n := max a.length b.length) (by omega), ← val_ge (l := b) (n := max a.length b.length) (by omega)]
  exact evs_congr h x _
theorem val_trim (l : List Rat) (x : Rat) : val (trimR l) x = val l x := val_co (co_trim l) x
theorem rpow_add (x : Rat) (s : Nat) : ∀ n, x ^ (s + n) = x ^ s * x ^ n
  | 0 => by rw [Nat.add_zero, Rat.pow_zero, Rat.mul_one]
  | n + 1 => by rw [← Nat.add_assoc, Rat.pow_succ, rpow_add x s n, Rat.pow_succ, Rat.mul_assoc]
/-- the value of a product: one number of the first one after the other -/
theorem evs_shift (b : Nat → Rat) (x a : Rat) (s : Nat) : ∀ n, evs (fun j => if s ≤ j then a * b (j - s) else 0) x (s + n) = a * x ^ s * evs b x n
  | 0 => by
    have z : ∀ m, m ≤ s → evs (fun j => if s ≤ j then a * b (j - s) else 0) x m = 0 := by
      intro m
      induction m with
      | zero => intro _; rfl
      | succ m ih =>
        intro hm
        show evs _ x m + (if s ≤ m then a * b (m - s) else 0) * x ^ m = 0
        rw [ih (by omega), if_neg (by omega)]
        grind
    rw [Nat.add_zero, z s (Nat.le_refl s)]
    show 0 = a * x ^ s * 0
    grind
  | n + 1 => by
    show evs _ x (s + n) + (if s ≤ s + n then a * b (s + n - s) else 0) * x ^ (s + n) = a * x ^ s * (evs b x n + b n * x ^ n)
    rw [evs_shift b x a s n, if_pos (by omega), show s + n - s = n by omega, rpow_add]
    grind
theorem evs_add (c d : Nat → Rat) (x : Rat) : ∀ n, evs (fun j => c j + d j) x n = evs c x n + evs d x n
  | 0 => by show (0 : Rat) = 0 + 0; grind
  | n + 1 => by
    show evs _ x n + (c n + d n) * x ^ n = _ + _
    rw [evs_add c d x n]
    show _ = (evs c x n + c n * x ^ n) + (evs d x n + d n * x ^ n)
    grind
theorem evs_cs (a b : Nat → Rat) (x : Rat) (L : Nat) : ∀ i n, (∀ k, L ≤ k → b k = 0) → i + L ≤ n → evs (cs a b i) x n = evs a x i * evs b x L
  | 0, n, _, _ => by
    have z : ∀ m, evs (cs a b 0) x m = 0 := by
      intro m
      induction m with
      | zero => rfl
      | succ m ih =>
        show evs _ x m + cs a b 0 m * x ^ m = 0
        rw [ih]
        show 0 + 0 * _ = _
        grind
    rw [z]
    show 0 = 0 * _
    grind
  | i + 1, n, hb, hn => by
    have e : ∀ j, cs a b (i + 1) j = cs a b i j + (if i ≤ j then a i * b (j - i) else 0) := fun j => rfl
    rw [evs_congr e, evs_add (cs a b i) (fun j => if i ≤ j then a i * b (j - i) else 0), evs_cs a b x L i n hb (by omega)]
    obtain ⟨m, rfl⟩ : ∃ m, n = i + m := ⟨n - i, by omega⟩
    rw [evs_shift, evs_stop hb m (by omega)]
    show _ = (evs a x i + a i * x ^ i) * _
    grind
theorem val_conv (a b : List Rat) (x : Rat) : val (conv a b) x = val a x * val b x := by
  have h := evs_cs (co a) (co b) x b.length a.length (a.length + b.length) (fun k hk => co_ge hk) (Nat.le_refl _)
  rw [← val_ge (l := conv a b) (n := a.length + b.length) (by rw [len_conv]; omega)]
  rw [evs_congr (d := cs (co a) (co b) a.length) (fun j => by rw [co_conv, cs_co])]
  exact h
/-- sizes of values -/
theorem Rb.pow {n : Nat} {x : Rat} (h : Rb n x) : ∀ i, Rb (1 + i * n) (x ^ i)
  | 0 => by rw [Rat.pow_zero]; exact Rb1.mono (by omega)
  | i + 1 => by
    rw [Rat.pow_succ, Nat.succ_mul]
    exact ((Rb.pow h i).mul h).mono (by omega)
theorem Rb.ev {A B : Nat} {c : Nat → Rat} {x : Rat} (hc : ∀ i, Rb B (c i)) (hx : Rb A x) (m : Nat) : ∀ i, i ≤ m → Rb (1 + i * (B + 2 + m * A)) (evs c x i)
  | 0, _ => Rb0.mono (by omega)
  | i + 1, hi => by
    have h := (Rb.ev hc hx m i (by omega)).add ((hc i).mul (hx.pow i))
    refine h.mono ?_
    have : i * A ≤ m * A := Nat.mul_le_mul_right _ (by omega)
    rw [Nat.succ_mul]
    omega
theorem Rb.hor {A B : Nat} {c : Nat → Rat} {x : Rat} (hc : ∀ i, Rb B (c i)) (hx : Rb A x) : ∀ n k, Rb (1 + n * (A + B + 1)) (hor c x k n)
  | 0, k => Rb0.mono (by omega)
  | n + 1, k => by
    have h := ((Rb.hor hc hx n (k + 1)).mul hx).add (hc k)
    refine h.mono ?_
    rw [Nat.succ_mul]
    omega
end Mf
namespace Mf
open PySem PySem.Spec PyProof.Rows L2
section
variable {K : PySem.W.Frag} {σ : L2.St} {H H1 : Hp} {Q : VK} {te ti to : TE} {tt : TT} {vs : List Nat} {D : Ends} {tb : TS}
/-- for x, y in a: a tuple of fractions -/
theorem g_forTP {i0 i j : Nat} {a : Addr} {xs : List V} {rs : List Rat} {H0 : Hp} (e : σ[i0]? = some (some (.ref a))) (ha : H0 a = some (.tup xs)) (tl : TL H0 xs rs) (Pv : Nat → L2.St → Hp → Prop) (h0 : Pv 0 σ H) (hx : ∀ n σ' H', Pv n σ' H' → Same H0 H')
    (hb : ∀ n σ' H', n < rs.length → rs[n]? = some (co rs n) → Pv n σ' H' → tb ⟨Pv (n + 1), D.rt, D.nx, Pv (n + 1)⟩ ((σ'.set i (some (.int (co rs n).num))).set j (some (.int ((co rs n).den : Int)))) H')
    (hd : ∀ σ' H', Pv rs.length σ' H' → D.nx σ' H') : tFor (iTup K (tVar i0)) (g2 K i j) tb D σ H := by
  have hl := tl.len
  refine ⟨.ref a, e, a, rfl, ⟨xs, tupU (hx _ _ _ h0 _ _ ha)⟩, for_tup (xs := xs) Pv h0 (fun n σ' H' _ p => tupU (hx _ _ _ p _ _ ha)) (fun n x σ' H' ex p => ?_) (fun σ' H' p => hd σ' H' (by rw [← hl]; exact p))⟩
  obtain ⟨b, rfl, eb, gb⟩ := (tl.go (Same.kt (hx _ _ _ p))).get ex
  exact g_pair (tupU eb) (hb n σ' H' (List.getElem?_eq_some_iff.mp gb).1 gb p)
theorem lcgo_tupP {a : Addr} {xs : List V} {rs : List Rat} {i j : Nat} (ha : H1 a = some (.tup xs)) (tl : TL H1 xs rs) (Pv : Addr → Nat → Hp → Prop) (hw : ∀ x y, wipe (((wipe σ vs).set i (some x)).set j (some y)) vs = wipe σ vs)
    (h0 : ∀ D, H1 D = none → Pv D 0 (upd H1 D (.lst []))) (hl : ∀ D n H, Pv D n H → Same H1 H)
    (hs : ∀ D n H, H1 D = none → n < rs.length → rs[n]? = some (co rs n) → Pv D n H → te (((wipe σ vs).set i (some (.int (co rs n).num))).set j (some (.int ((co rs n).den : Int)))) H fun y H4 => ∃ acc, H4 D = some (.lst acc) ∧ acc.length < sizeLine ∧ Pv D (n + 1) (upd H4 D (.lst (acc ++ [y]))))
    (hd : ∀ D H, H1 D = none → Pv D rs.length H → Q (.ref D) H) : LcGo (Itt K a) (g2 K i j) tYes te vs σ H1 Q := by
  intro D hD
  have hlen := tl.len
  refine ⟨fun n m H => m = xs.length - n ∧ n ≤ xs.length ∧ Pv D n H, ⟨xs.length, by omega, Nat.zero_le _, h0 D hD⟩, ?_⟩
  rintro n m H ⟨rfl, hi, p⟩
  have q := tupU (K := K) (hl D n H p _ _ ha)
  by_cases hlt : n < xs.length
  · refine .inr ⟨⟨xs, xs[n], q, by simp [hlt]⟩, Pv D (n + 1), fun H' p' => ⟨xs.length - (n + 1), by omega, rfl, hlt, p'⟩, fun x H' yl => ?_⟩
    obtain ⟨rfl, yl⟩ := yl
    obtain ⟨b, rfl, eb, gb⟩ := (tl.go (Same.kt (hl D n _ p))).get (yl xs q)
    exact g_pair (tupU eb) ⟨hw _ _, g_yes (g_iteT (hs D n _ hD (by omega) gb p))⟩
  · have e2 : n = xs.length := by omega
    subst e2
    exact .inl ⟨⟨xs, q, Nat.le_refl _⟩, hd D H hD (by rw [← hlen]; exact p)⟩
/-- .. over enumerate(a), a a list -/
theorem lcgo_enumL {a : Addr} {xs : List V} {i j : Nat} (Pv : Addr → Nat → Hp → Prop) (hw : ∀ x y, wipe (((wipe σ vs).set i (some x)).set j (some y)) vs = wipe σ vs)
    (h0 : ∀ D, H1 D = none → Pv D 0 (upd H1 D (.lst []))) (hl : ∀ D n H, n ≤ xs.length → Pv D n H → SqL K H a xs)
    (hs : ∀ D n x T H, H1 D = none → xs[n]? = some x → Pv D n H → H T = none → tt (((wipe σ vs).set i (some (.int (n : Nat)))).set j (some x)) (upd H T (.tup [.int (n : Nat), x])) fun b H3 =>
      if b = true then te (((wipe σ vs).set i (some (.int (n : Nat)))).set j (some x)) H3 fun y H4 => ∃ acc, H4 D = some (.lst acc) ∧ acc.length < sizeLine ∧ Pv D (n + 1) (upd H4 D (.lst (acc ++ [y]))) else Pv D (n + 1) H3)
    (hd : ∀ D H, H1 D = none → Pv D xs.length H → Q (.ref D) H) : LcGo (Ite K a) (g2 K i j) tt te vs σ H1 Q := by
  intro D hD
  refine ⟨fun n m H => m = xs.length - n ∧ n ≤ xs.length ∧ Pv D n H, ⟨xs.length, by omega, Nat.zero_le _, h0 D hD⟩, ?_⟩
  rintro n m H ⟨rfl, hi, p⟩
  have q := hl D n H hi p
  by_cases hlt : n < xs.length
  · refine .inr ⟨⟨xs, xs[n], q, by simp [hlt]⟩, Pv D (n + 1), fun H' p' => ⟨xs.length - (n + 1), by omega, rfl, hlt, p'⟩, fun x H' yl => ?_⟩
    obtain ⟨T, z, rfl, nT, rfl, ez⟩ := yl
    exact g_pair (tupU upd_same) ⟨hw _ _, hs D n z T H hD (ez xs q) p nT⟩
  · have e2 : n = xs.length := by omega
    subst e2
    exact .inl ⟨⟨xs, q, Nat.le_refl _⟩, hd D H hD p⟩
theorem g_lcEL {ta : TA} {g : TG} (q : ta σ H fun us H1 => ∃ a xs, us = [.ref a] ∧ SqL K H1 a xs ∧ LcGo (Ite K a) g tt te vs σ H1 Q) : tLc (iEnum K ta) g tt te vs σ H Q := q
theorem g_lcm {a b : Int} (ha : Bt 5000 a) (hb : Bt 5000 b) (q : Q (.int ((Nat.lcm a.natAbs b.natAbs : Nat) : Int)) H) : rLcm [.int a, .int b] H Q := ⟨a, b, rfl, ha, hb, q⟩
theorem g_augS {tg : V → V → Hp → VK → Prop} {tip : TIp} {ts : TSet} (q : to σ H fun o H1 => ti σ H1 fun i H2 => tg o i H2 fun x H3 => te σ H3 fun y H4 => tip x y H4 fun z H5 => ts o i z H5 fun H6 => D.nx σ H6) : tAugS to ti te tg tip ts D σ H := q
theorem g_ipI {f : Int → Int → Int} {i j : Int} (q : Q (.int (f i j)) H) : ipI f (.int i) (.int j) H Q := ⟨i, j, rfl, rfl, q⟩
theorem g_getL {a : Addr} {xs : List V} {k : Nat} {v : V} (h : SqL K H a xs) (e : xs[k]? = some v) (q : Q v H) : rGetL K (.ref a) (.int (k : Int)) H Q := ⟨a, xs, k, v, rfl, rfl, h, e, q⟩
/-- for x in reversed(a), a a tuple -/
theorem g_forRT {i0 j : Nat} {a : Addr} {xs : List V} {H0 : Hp} (e : σ[i0]? = some (some (.ref a))) (ha : H0 a = some (.tup xs)) (Pv : Nat → L2.St → Hp → Prop) (h0 : Pv 0 σ H) (hx : ∀ n σ' H', Pv n σ' H' → Same H0 H')
    (hb : ∀ n x σ' H', n < xs.length → xs[xs.length - 1 - n]? = some x → Pv n σ' H' → tb ⟨Pv (n + 1), D.rt, D.nx, Pv (n + 1)⟩ (σ'.set j (some x)) H')
    (hd : ∀ σ' H', Pv xs.length σ' H' → D.nx σ' H') : tFor (RT.iRevA K (tVar i0)) (gName j) tb D σ H := by
  refine ⟨.ref a, e, a, xs, rfl, .inr ⟨tupU (hx _ _ _ h0 _ _ ha), fun i m σ H => m = xs.length - i ∧ i ≤ xs.length ∧ Pv i σ H, ⟨xs.length, by omega, Nat.zero_le _, h0⟩, ?_⟩⟩
  rintro n m σ H ⟨rfl, hi, p⟩
  have q := tupU (K := K) (hx _ _ _ p _ _ ha)
  by_cases hlt : n < xs.length
  · have hl2 : xs.length - 1 - n < xs.length := by omega
    refine .inr ⟨⟨hlt, xs, xs[xs.length - 1 - n], q, List.getElem?_eq_getElem hl2⟩, Pv (n + 1), fun σ' H' p' => ⟨xs.length - (n + 1), by omega, rfl, hlt, p'⟩, fun x H' yl => ?_⟩
    obtain ⟨rfl, yl⟩ := yl
    exact hb n x σ _ hlt (yl xs q) p
  · have e2 : n = xs.length := by omega
    subst e2
    exact .inl ⟨Nat.le_refl _, hd σ H p⟩
/-- a for over range(e) -/
theorem g_forN {ta : TA} {j : Nat} {n : Nat} (Pv : Nat → L2.St → Hp → Prop) (hn : n ≤ 1000)
    (h : ta σ H fun vs H1 => vs = [.int (n : Int)] ∧ Pv 0 σ H1)
    (hmono : ∀ R R' : List V → Hp → Prop, (∀ vs H', R vs H' → R' vs H') → ta σ H R → ta σ H R')
    (hs : ∀ i σ H, i < n → Pv i σ H → tb ⟨Pv (i + 1), D.rt, D.nx, Pv (i + 1)⟩ (σ.set j (some (.int (0 + (i : Int))))) H) (hd : ∀ σ H, Pv n σ H → D.nx σ H) :
    tFor (iRng1 ta) (gName j) tb D σ H :=
  hmono _ _ (fun vs H1 hv => by
    obtain ⟨rfl, h0⟩ := hv
    exact ⟨(n : Int), rfl, by omega, by omega, by
      rw [Int.toNat_natCast]
      exact for_range (lo := 0) (n := n) Pv h0 (fun i σ H hi p => hs i σ H hi p) hd⟩) h
end
def ForGo (J : It) (g : TG) (tb : TS) (D : Ends) (σ : L2.St) (H1 : Hp) : Prop := ∃ W : Nat → Nat → L2.St → Hp → Prop, (∃ m, W 0 m σ H1) ∧ ∀ i m σ H, W i m σ H →
  (J.stop i H ∧ D.nx σ H) ∨ (J.go i H ∧ ∃ N : L2.St → Hp → Prop, (∀ σ' H', N σ' H' → ∃ m', m' < m ∧ W (i + 1) m' σ' H') ∧ ∀ x H', J.yld i H x H' → g x σ H' fun σ2 H2 => tb { D with nx := N, ct := N, bk := D.nx } σ2 H2)
/-! ### promises -/
def RetO (rs : List Rat) (n : Nat) (H : Hp) (Q : VK) : Prop := ∀ (p : Addr) (H' : Hp) (L : Addr) (us : List Int), Same H H' → H p = none → H' p = some (.tup [.ref L, .int (lcmL rs : Int)]) → H' L = some (.lst (us.map V.int)) → us.length = rs.length →
  (∀ i, i < rs.length → ∃ u, us[i]? = some u ∧ Rat.divInt u (lcmL rs : Int) = co rs i ∧ Bt (n + (rs.length * n + 1)) u) → Q (.ref p) H'
def sp_oood (K : PySem.W.Frag) : Sp := fun vs H Q _ => ∃ a xs rs n, vs = [.ref a] ∧ H a = some (.tup xs) ∧ TL H xs rs ∧ RbL n rs ∧ rs.length ≤ 100 ∧ 1 ≤ n ∧ rs.length * n + n ≤ 4000 ∧ RetO rs n H Q
def sp_times (K : PySem.W.Frag) : Sp := fun vs H Q _ => ∃ a b xs ys f g A B, vs = [.ref a, .ref b] ∧ H a = some (.tup xs) ∧ H b = some (.tup ys) ∧ TL H xs f ∧ TL H ys g ∧ RbL A f ∧ RbL B g ∧ Tr f ∧ Tr g ∧ 1 ≤ A ∧ 1 ≤ B ∧ f.length ≤ 100 ∧ g.length ≤ 100 ∧
  f.length * A + A ≤ 3000 ∧ g.length * B + B ≤ 3000 ∧ RetL (trimR (conv f g)) H Q
def sp_ptimes (K : PySem.W.Frag) : Sp := fun vs H Q _ => ∃ q a b xs ys ds es n A B, vs = [.ref a, .ref b] ∧ a ≠ q ∧ b ≠ q ∧ Sq K H a xs ∧ Sq K H b ys ∧ DqAll q K H xs ds ∧ DqAll q K H ys es ∧
  (∀ d ∈ ds, isFrD d = true ∧ Bt n (upD d) ∧ Bt n (dnD d)) ∧ (∀ d ∈ es, isFrD d = true ∧ Bt n (upD d) ∧ Bt n (dnD d)) ∧ n ≤ 7000 ∧ ds.length ≤ 80 ∧ es.length ≤ 80 ∧ RbL A (trimR (ds.map valQ)) ∧ RbL B (trimR (es.map valQ)) ∧ 1 ≤ A ∧ 1 ≤ B ∧
  (trimR (ds.map valQ)).length * A + A ≤ 3000 ∧ (trimR (es.map valQ)).length * B + B ≤ 3000 ∧ ((trimR (es.map valQ)) = [] ∨ (trimR (ds.map valQ)).length + (trimR (es.map valQ)).length ≤ 81) ∧ RetL (trimR (conv (trimR (ds.map valQ)) (trimR (es.map valQ)))) H Q
def sp_polyof (K : PySem.W.Frag) : Sp := fun vs H Q _ => ∃ q a xs ds n, vs = [.ref a] ∧ a ≠ q ∧ Sq K H a xs ∧ DqAll q K H xs ds ∧ (∀ d ∈ ds, isFrD d = true ∧ Bt n (upD d) ∧ Bt n (dnD d)) ∧ n ≤ 7000 ∧ ds.length ≤ 80 ∧ RetL (trimR (ds.map valQ)) H Q
def sp_psum (K : PySem.W.Frag) : Sp := fun vs H Q _ => ∃ q a b xs ys ds es n, vs = [.ref a, .ref b] ∧ a ≠ q ∧ b ≠ q ∧ Sq K H a xs ∧ Sq K H b ys ∧ DqAll q K H xs ds ∧ DqAll q K H ys es ∧
  (∀ d ∈ ds, isFrD d = true ∧ Bt n (upD d) ∧ Bt n (dnD d)) ∧ (∀ d ∈ es, isFrD d = true ∧ Bt n (upD d) ∧ Bt n (dnD d)) ∧ 1 ≤ n ∧ n ≤ 3000 ∧ ds.length ≤ 80 ∧ es.length ≤ 80 ∧ RetL (trimR (padd (ds.map valQ) (es.map valQ))) H Q
def sp_pval (K : PySem.W.Frag) : Sp := fun vs H Q _ => ∃ q a v xs ds x n A B, vs = [.ref a, v] ∧ a ≠ q ∧ Sq K H a xs ∧ DqAll q K H xs ds ∧ (∀ d ∈ ds, isFrD d = true ∧ Bt n (upD d) ∧ Bt n (dnD d)) ∧ n ≤ 7000 ∧ ds.length ≤ 80 ∧ Fr q K H v x A ∧ RbL B (trimR (ds.map valQ)) ∧ 1 ≤ B ∧
  (trimR (ds.map valQ)).length * (A + B + 1) + A + B ≤ 6900 ∧ (∃ acc, H q = some (.lst acc)) ∧ RetT (val (ds.map valQ) x) H Q
def sp_lval (K : PySem.W.Frag) : Sp := fun vs H Q _ => ∃ a b xs rs x A B C, vs = [.ref a, .ref b] ∧ Sq K H a xs ∧ TL H xs rs ∧ H b = some (.tup (rv x)) ∧ Rb A x ∧ RbL B rs ∧ 1 ≤ B ∧ (∀ i, i ≤ rs.length → Rb C (evs (co rs) x i)) ∧ C + B + (rs.length + 1) * A + 2 ≤ 7000 ∧ xs.length ≤ 100 ∧ RetT (val rs x) H Q
end Mf
/-! a caught error that is kept behind its suite -/
namespace Mf
open PySem PySem.Spec PySem.Calls PyProof.Rows L2
/-- at e: an error that was caught, of the class cls, its dict at d -/
def cxo (e : Addr) (cls : Value) (d : Option Addr) : HO := .ext fun h => ∃ (oe : Obj) (vs : Array Value), h.get? e = some oe ∧ oe.cls = cls ∧ oe.dict = d ∧ oe.data = .fields vs
theorem cxo_ok {P : Program} {w : World} {H : Hp} {h : Heap} {e : Addr} {cls : Value} {d : Option Addr} {oe : Obj} {vs : Array Value} (he : h.get? e = some oe) (h1 : oe.cls = cls) (h2 : oe.dict = d) (h3 : oe.data = .fields vs) : ObjOk P w H h e (cxo e cls d) :=
  ⟨⟨oe, vs, he, h1, h2, h3⟩, ⟨oe, he⟩, fun a b z k => by
    obtain ⟨o2, v2, q1, q2, q3, q4⟩ := z
    exact ⟨o2, v2, k _ q1, q2, q3, q4⟩⟩
theorem cxo_at {P : Program} {w : World} {H : Hp} {h : Heap} {e : Addr} {cls : Value} {d : Option Addr} (hok : HOk P w H h) (he : H e = some (cxo e cls d)) : ∃ (oe : Obj) (vs : Array Value), h.get? e = some oe ∧ oe.cls = cls ∧ oe.dict = d ∧ oe.data = .fields vs := by
  have x : ObjOk P w H h e (.ext fun h => ∃ (oe : Obj) (vs : Array Value), h.get? e = some oe ∧ oe.cls = cls ∧ oe.dict = d ∧ oe.data = .fields vs) := hok e _ he
  exact x.1
section
variable {X : Cx} {pins : List (Addr × Obj)} {σ : L2.St} {H : Hp} {s : Shared}
theorem Inv.track {a : Addr} {u : HO} (I : Inv X pins σ H s) (hn : H a = none) (new : ∀ o, X.s_0.heap.get? a = some o → a ∈ X.ex) (nL : a ≠ X.env.locals) (nC : ∀ x c, X.env.cells.lookup x = some c → c ≠ a) (nP : ∀ p ∈ X.pn ++ pins, p.1 ≠ a)
    (ok : ObjOk X.prog X.w (upd H a u) s.heap a u) : Inv X pins σ (upd H a u) s := by
  have neq : ∀ {b : Addr} {o : HO}, H b = some o → b ≠ a := fun e => ne_of_none e hn
  refine ⟨I.ok, I.os, I.bare, ⟨I.base.keep, I.base.slot, fun b o e n hx => ?_, I.base.there, fun b xs e => ?_, fun b o v e => ?_, fun b ps e => ?_⟩, I.loc, I.cell, ?_, fun x c e => ?_, fun p hp => ?_, fun b v e => ?_, I.len⟩
  · by_cases hb : b = a
    · subst hb
      exact absurd (new o e) hx
    · rw [upd_ne hb]
      exact I.base.free b o e n hx
  · have q := I.base.tups b xs e
    rw [upd_ne (neq q)]
    exact q
  · have q := I.base.frzs b o v e
    rw [upd_ne (neq q)]
    exact q
  · obtain ⟨more, q⟩ := I.base.tbls b ps e
    exact ⟨more, by rw [upd_ne (neq q)]; exact q⟩
  · rw [upd_ne (Ne.symm nL)]
    exact I.free
  · rw [upd_ne (nC x c e)]
    exact I.freeC x c e
  · obtain ⟨q1, q2, q3⟩ := I.pin p hp
    exact ⟨q1, by rw [upd_ne (nP p hp)]; exact q2, q3⟩
  · by_cases hb : b = a
    · subst hb
      rw [upd_same] at e
      cases e
      exact ok
    · rw [upd_ne hb] at e
      exact (I.hok b v e).stay (fun c w hc q => q) (fun d q => by rw [upd_ne (neq q)]; exact q) fun d xs q => by rw [upd_ne (neq q)]; exact q
end
/-- what 'except x as n' wishes where the error is kept -/
def wKeep (K : PySem.W.Frag) (c : Value) (i : Nat) (ts : Addr → Value → Option Addr → TS) (Wout : WX) (D : Ends) : WX := fun cls d σ H =>
  ∃ b, PySem.W.exmOne K cls c = some b ∧ (b = true → ∀ a, H a = none → ts a cls d { nx := fun σ' H' => D.nx (σ'.set i none) (upd H' a (cxo a cls d)), rt := fun _ _ => False, bk := fun _ _ => False, ct := fun _ _ => False } (σ.set i (some (.ref a))) H) ∧
    (b = false → Wout cls d σ H)
section
variable {X : Cx} {x n : Str} {c : Value} {i : Nat} {body suite : List Stmt} {b₀ : Stmt} {np pos pos' : Pos} {tb : WX → TS} {ts : Addr → Value → Option Addr → TS} {Wout : WX}
theorem ps_try_keep (hs : X.stack = X.env :: X.outer) (hf : X.env.frame = some X.env.locals) (hN : X.N.Nodup) (hi : X.N[i]? = some n) (hln : X.env.kindOf n = some .local) (hc : Names X x c) (tk : Takes X Wout)
    (hb : ∀ (W : WX) (pn : List (Addr × Obj)) (xe : Value → Shared → Prop), Takes (X.tr pn xe) W → PassesOwn (model X.prog X.w) X.A X.env xe → PSs (X.tr pn xe) body (tb W))
    (hsu : ∀ (a : Addr) (oe : Obj) (cls : Value) (d : Option Addr) (pn : List (Addr × Obj)), Zc cls d oe → (∃ vs, oe.data = .fields vs) → PSs (X.suite a ((a, oe) :: pn)) (b₀ :: suite) (ts a cls d)) :
    PS X (.Try body [.ExceptHandler (some (.Name x np)) (some n) (b₀ :: suite) pos'] [] [] pos) (fun D σ H => tb (wKeep X.K c i ts Wout D) D σ H) := by
  refine ⟨fun pins s σ H D I h => ?_⟩
  have ok := I.ok
  have hfr : X.A.frames = some (X.env :: X.outer) := by rw [ok.frames, hs]
  have hloc : Loc X.env.scope n := .inl hln
  refine wpAny_Try_except ?_
  refine wpAny_mono ((hb (wKeep X.K c i ts Wout D) (X.pn ++ pins) (fun e s₁ => wpAny (model X.prog X.w) X.A (noteFrame e X.env) (fun _ s₂ => wpAny (model X.prog X.w) X.A (setFlight e none) (fun _ s₃ =>
    wpAny (model X.prog X.w) X.A (handleBy e X.env [.ExceptHandler (some (.Name x np)) (some n) (b₀ :: suite) pos']) (SP X pins D) X.xe s₃) X.xe s₂) X.xe s₁) (fun u s' xx => ?_) PassesOwn.looking).run [] s σ H D (I.toTry _) h) (fun f s1 hsp => ?_) (fun e s1 he => he)
  · obtain ⟨a, B, sI, pins', σ', H', cls, d, rfl, J', nb, up, sky, na, os, ag, b, hb1, hyes, hno⟩ := xx
    have J : Inv X pins σ' H' sI := J'.ofTry ok
    have sky' : Sky B (X.env :: X.outer) a (Zc cls d) X.env.locals s'.heap := by rw [← hs]; exact sky
    show wpAny (model X.prog X.w) X.A (noteFrame (.ref a) X.env) _ _ _
    refine Sky.land Zc.steady hfr hf sky' fun h3 fl3 up3 => ?_
    have J3 : Inv X pins σ' H' { s' with heap := h3 } := J.landed nb fl3.1 (up.trans up3) os ag
    obtain ⟨oe3, vs3, he3, hz3, hd3⟩ := fl3.there
    have notFr : ∀ {h : Heap} {o : Obj} {vs : Array Value}, h.FunFrames B (X.env :: X.outer) → h.get? a = some o → o.data = .fields vs → a ∉ frs (X.env :: X.outer) := fun {h o vs} ff e dd hm => by
      obtain ⟨_, o', e', hnf⟩ := ff.mem hm
      rw [e] at e'
      cases e'
      exact hnf _ dd
    have nfr := notFr fl3.2.2.1 he3 hd3
    have hB : B.get? a = none := fl3.2.1
    have nL : a ≠ X.env.locals := fun z => nfr (List.mem_filterMap.mpr ⟨X.env, List.mem_cons_self, by rw [hf, z]⟩)
    have nF : a ∉ X.fs := fun hm => by
      obtain ⟨e, he, q⟩ := List.mem_filterMap.mp hm
      exact nfr (List.mem_filterMap.mpr ⟨e, List.mem_cons_of_mem _ he, q⟩)
    have nI : ∀ o, sI.heap.get? a = some o → False := fun o e => by
      have q := nb a o e (by rw [hs]; exact nfr)
      rw [hB] at q
      cases q
    have new : ∀ o, X.s_0.heap.get? a = some o → a ∈ X.ex := fun o e => by
      by_cases z : a ∈ X.ex
      · exact z
      · obtain ⟨o', e'⟩ := J.base.there a o e z
        exact (nI o' e').elim
    have nP : ∀ p ∈ X.pn ++ pins, p.1 ≠ a := fun p hp z => by
      have q := (J.pin p hp).1
      rw [z] at q
      exact nI _ q
    have S3 := J3.suite he3 hd3 na nL nF
    refine wpAny_handleBy_cons (codeAny_handlers_test ?_) (by intro q; cases q)
    have LT : PySem.W.Looks (model X.prog X.w) h3 (typeOf (.ref a)) cls := fun A Q E s k q => wpAny_typeOf_ref (k _ _ he3) (by rw [hz3.1]; exact q)
    have LM := PySem.W.exm_one (M := model X.prog X.w) (J3.kIn) LT hb1
    have test : ∀ {Q : Value → Shared → Prop} {E : Value → Shared → Prop}, Q c { s' with heap := h3 } → wpAny (model X.prog X.w) (X.A.mark (some (.ref a))) (eval (.Name x np) X.env) Q E { s' with heap := h3 } := fun {Q E} q => by
      obtain ⟨hg, hdbg, hm | ⟨hm, hv, hnn⟩⟩ := hc
      · exact ld_glob (X := X.suite a ((a, oe3) :: (X.pn ++ pins))) S3 hg hm q hdbg
      · exact ld_blt (X := X.suite a ((a, oe3) :: (X.pn ++ pins))) S3 hg hm hv q hnn hdbg
    refine test (LM.here ?_)
    cases b with
    | true =>
      refine codeAny_handlers_suite_as ?_
      refine HandSPX.lands_againZ fl3 fun h4 fl4 up4 => ?_
      have J4 : Inv X pins σ' H' { s' with heap := h4 } := J.landed nb fl4.1 ((up.trans up3).trans up4) os ag
      obtain ⟨oe4, vs4, he4, hz4, hd4⟩ := fl4.there
      have S4 := J4.suite he4 hd4 na nL nF
      refine store_ok (X := X.suite a ((a, oe4) :: (X.pn ++ pins))) (v := .ref a) S4 hN hi hloc rfl (fun s5 S5 => ?_) (.inr hln)
      refine wpAny_mono ((hsu a oe4 cls d (X.pn ++ pins) hz4 ⟨_, hd4⟩).run [] s5 _ H' _ S5 (hyes rfl a na)) (fun f s6 hsp => ?_) (fun _ _ z => False.elim z)
      cases f with
      | next =>
        obtain ⟨σ6, H6, S6, q6⟩ := hsp
        obtain ⟨g1, g2, _⟩ := S6.pin (a, oe4) (List.mem_append_left _ List.mem_cons_self)
        have J6 := S6.unsuite ok
        have J7 : Inv X pins σ6 (upd H6 a (cxo a cls d)) s6 := by
          refine Inv.track J6 g2 new nL (fun y cc e z => ?_) nP (cxo_ok g1 hz4.1 hz4.2 hd4)
          obtain ⟨v, o, ho, hv⟩ := J6.cell y cc e
          rw [z, g1] at ho
          cases ho
          rw [hd4] at hv
          cases hv
        exact gone_ok J7 hN hi hln fun s7 K7 => ⟨_, _, K7, q6⟩
      | brk =>
        obtain ⟨σ6, H6, S6, q6⟩ := hsp
        exact q6.elim
      | cont =>
        obtain ⟨σ6, H6, S6, q6⟩ := hsp
        exact q6.elim
      | ret u =>
        obtain ⟨v6, σ6, H6, S6, r6, q6⟩ := hsp
        exact q6.elim
    | false =>
      show wpAny _ X.A (handleBy (.ref a) X.env []) _ _ _
      refine wpAny_handleBy_nil ?_
      obtain ⟨k1, k2, k3, oe, vs, T, oT, ts', he, hz, hd, h1, hr⟩ := id fl3
      unfold PySem.passOn
      refine wpAny_bind (wpAny_field he hd h1 ?_)
      rw [if_neg (show ¬ ((Value.ref T == Value.none) = true) from by simp)]
      have fin : wpAny (model X.prog X.w) X.A (setFlight (.ref a) X.env.frame) (fun _ s4 => wpAny (model X.prog X.w) X.A (throw (.ref a) : Sem Flow) (SP X pins D) X.xe s4) X.xe { s' with heap := h3 } := by
        rw [hf]
        refine HandSPX.setFlight_upZ fl3 fun h4 hh4 up4 => wpAny_throw (tk _ _ ?_)
        exact ⟨a, B, sI, pins, σ', H', cls, d, rfl, J, nb, (up.trans up3).trans up4, .inr (.inr (by rw [hs]; exact hh4)), na, os, ag, hno rfl⟩
      first
        | exact wpAny_bind (wpAny_pure (wpAny_bind fin))
        | exact wpAny_bind fin
  · cases f with
    | next =>
      obtain ⟨σ', H', J', q⟩ := hsp
      exact wpAny_execs_nil ⟨σ', H', J'.ofTry ok, q⟩
    | brk =>
      obtain ⟨σ', H', J', q⟩ := hsp
      exact ⟨σ', H', J'.ofTry ok, q⟩
    | cont =>
      obtain ⟨σ', H', J', q⟩ := hsp
      exact ⟨σ', H', J'.ofTry ok, q⟩
    | ret u =>
      obtain ⟨v, σ', H', J', r, q⟩ := hsp
      exact ⟨v, σ', H', J'.ofTry ok, r, q⟩
end
/-! ### a kept error: isinstance, its fields -/
def Ek (H : Hp) (a C : Addr) (fs : List (Str × V)) : Prop := ∃ d, H a = some (cxo a (.ref C) (some d)) ∧ H d = some (.xd fs)
theorem Ek.go {H H' : Hp} {a C : Addr} {fs : List (Str × V)} (s : Same H H') (e : Ek H a C fs) : Ek H' a C fs := by
  obtain ⟨d, e1, e2⟩ := e
  exact ⟨d, s _ _ e1, s _ _ e2⟩
section
variable {X : Cx} {pins : List (Addr × Obj)} {σ : L2.St} {H : Hp} {s : Shared} {a C : Addr} {fs : List (Str × V)}
theorem Ek.inst {P : Program} {w : World} {h : Heap} (e : Ek H a C fs) (hok : HOk P w H h) : ∃ (oe od : Obj) (mA : Str → Option Value), PySem.W.InstAt h a oe C (some od) ∧ (∀ y, PySem.W.lookIn y od = some (mA y)) ∧ ∀ f, RelO (fs.lookup f) (mA f) := by
  obtain ⟨d, ea, ed⟩ := e
  obtain ⟨oe, vs, ho, h1, h2, h3⟩ := cxo_at hok ea
  have hx : ObjOk P w H h d (.xd fs) := hok d _ ed
  obtain ⟨mA, hns, hr⟩ := hx
  obtain ⟨od, hod, hl⟩ := lookIn_ns hns
  exact ⟨oe, od, mA, ⟨ho, h1, by unfold PySem.W.notCls; rw [h3] <;> rfl, by rw [h2]; exact hod⟩, hl, hr⟩
def rIsK (K : PySem.W.Frag) : List V → Hp → VK → Prop := fun xs H Q => ∃ (a C : Addr) (fs : List (Str × V)) (c : V) (u : Value) (b : Bool), xs = [.ref a, c] ∧ ClsV c u ∧ Erc K C ∧ Ek H a C fs ∧ PySem.W.kitOne K (.ref C) u = some b ∧ Q (.bl b) H
theorem call_isK : CallR X (.builtin "isinstance") (rIsK X.K) := by
  intro pins s σ H xs us Q I r h
  obtain ⟨a, C, fs, c, u, b, rfl, k, T, e, z, q⟩ := h
  obtain ⟨u1, u2, rfl, r1, r2⟩ := vals2 r
  have e2 := k.eq r2
  subst e2
  obtain rfl : u1 = Value.ref a := r1
  obtain ⟨oe, od, mA, J, _⟩ := e.inst I.hok
  exact PySem.W.kia_one (kitx_excO T.c.hg T.c.hk T.c.hs T.c.hd T.c.ha T.c.hn T.c.ht T.c.hm) I.kIn J z (fun z => nomatch z) fun tk => ⟨.bl b, H, I.tok tk, rfl, q⟩
def tKat (K : PySem.W.Frag) (f : Str) (te : TE) : TE := fun σ H Q => te σ H fun x H1 => ∃ (a C : Addr) (fs : List (Str × V)) (v : V), x = .ref a ∧ Erc K C ∧ PySem.W.findIn K (.ref C) f = some none ∧ Ek H1 a C fs ∧ fs.lookup f = some v ∧ Q v H1
theorem pe_kat {e : Expr} {f : Str} {te : TE} {pos : Pos} (he : PE X e te) (hb : attributeBase e f X.env (eval e X.env) = eval e X.env := by rfl) : PE X (.Attribute e f pos) (tKat X.K f te) := by
  refine ⟨fun pins s σ H Q I h => ?_⟩
  refine attr_of hb (thn (he.run pins s σ H _ I h) fun u s1 hh => ?_)
  obtain ⟨x, H1, I1, rx, a, C, fs, v, ex, T, hno, e1, l, q⟩ := hh
  subst ex
  obtain rfl : u = Value.ref a := rx
  obtain ⟨oe, od, mA, J, hl, hr⟩ := e1.inst I1.hok
  obtain ⟨u, hu, ru⟩ := RelO.some_of (v := v) (o := mA f) (by rw [← l]; exact hr f)
  exact HandSPX.exc_get I1.kIn J T.c.hg T.c.hk T.c.hs (PySem.W.findObj_own T.c.hd hno rfl (by rw [hl, hu])) (handed_of ru) ⟨v, H1, I1.tok _, ru, q⟩
end
end Mf
namespace Mf
open PySem PySem.Spec PyProof.Rows L2
section
variable {K : PySem.W.Frag} {σ : L2.St} {H H1 : Hp} {Q : VK} {vs : List Nat} {q p : Addr}
theorem lc_asL {i1 j : Nat} {t : Int} {ws : List V} {rs : List Rat} (hq : Qy K q t H) (ht : t ≤ 900000) (np : p ≠ q) (ep : H p = some (.lst ws)) (tl : TL H ws rs) (b : RbL 100 rs) (l : rs.length ≤ 200)
    (hw : ∀ x, wipe ((wipe σ vs).set j (some x)) vs = wipe σ vs) (h1 : ∀ x, ((wipe σ vs).set j (some x))[i1]? = some (some (.ref q))) (h2 : ∀ x, ((wipe σ vs).set j (some x))[j]? = some (some x))
    (k : ∀ D H' t' xs ds, SameX q H H' → Qy K q t' H' → t ≤ t' → t' ≤ t + 2 * (rs.length : Int) → H D = none → D ≠ q → H' D = some (.lst xs) → DqAll q K H' xs ds → (∀ d ∈ ds, isFrD d = true ∧ Bt 140 (upD d) ∧ Bt 140 (dnD d)) → ds.map valQ = rs → Q (.ref D) H') :
    LcGo (Itl K p) (gName j) tYes (tCl (sp_las K) (tCons (tVar i1) (tCons (tVar j) tNil))) vs σ H Q := by
  have lw := tl.len
  refine lcgo_listF (xs := ws) (fun D i H' => ∃ t' xs fs, Qy K q t' H' ∧ t ≤ t' ∧ t' ≤ t + 2 * (i : Int) ∧ Qn q D H' ∧ SameX q H H' ∧ H' D = some (.lst xs) ∧ xs.length = i ∧ FzAll (fun b => b = q ∨ b = D) H' xs fs ∧ fs.map Fq.q = rs.take i) hw
    (fun D hD => ⟨t, [], [], hq.upd (Qn.new hq hD) (hq.ne hD), by omega, by omega, Qn.upd hq (Qn.new hq hD) (hq.ne hD), Same.x (same_new hD), upd_same, rfl, .nil, rfl⟩)
    (fun D i H' _ h => ?_) (fun D i x H' hD ex h => ?_) (fun D H' hD h => ?_)
  · obtain ⟨t', xs, fs, hq', _, _, _, sx, _⟩ := h
    exact seqU (sx _ _ np ep)
  · obtain ⟨t', xs, fs, hq', lt', ut', hn', sx, eD, lv, hall, ev⟩ := h
    have hi := (List.getElem?_eq_some_iff.mp ex).1
    have kx := sx.kt hq
    obtain ⟨pi, rfl, ei, gi⟩ := (tl.go kx).get ex
    have nD : D ≠ q := hq.ne hD
    refine g_yes ?_
    refine g_iteT ?_
    refine g_cl (g_cons (g_var (h1 _) (g_cons (g_var (h2 _) (g_nil ?_)))))
    refine ⟨q, pi, t', co rs i, rfl, hq', by omega, ei, b.co (by decide) i, fun t6 H6 v x y sx6 hq6 l6 u6 hz hy er bx by_ => ?_⟩
    have hn6 := hn'.go hq' sx6
    have eD6 := sx6 _ _ nD eD
    refine ⟨xs, eD6, small1000 (by omega), t6, xs ++ [v], fs ++ [⟨x, y, hy, bx, by_⟩], hq6.upd hn6 nD, by omega, by omega, Qn.upd hq6 hn6 nD, ?_, upd_same, by rw [List.length_append, lv]; rfl,
      FzAll.app (f := ⟨x, y, hy, bx, by_⟩) (hz.go fun b o nb eb => ?_) (hall.go fun b o nb eb => ⟨?_, nb⟩), ?_⟩
    · refine ⟨fun b o nb e => ?_, fun c w z e => ?_⟩
      · rw [upd_ne (ne_of_none e hD)]
        exact (sx.trans sx6).kept b o nb e
      · obtain ⟨w', z', e'⟩ := (sx.trans sx6).cell c w z e
        exact ⟨w', z', by rw [upd_ne nD.symm]; exact e'⟩
    · have nbq : b ≠ q := fun z => nb (by obtain ⟨c, ns, r, e1, _⟩ := hq'; rw [z]; exact ⟨_, e1⟩)
      have nbD : b ≠ D := fun z => nb (by rw [z]; exact ⟨_, eD⟩)
      refine ⟨by rw [upd_ne nbD]; exact eb, fun z => ?_⟩
      rcases z with z | z
      · exact nbq z
      · exact nbD z
    · rw [upd_ne (fun z => nb (.inr z))]
      exact sx6 _ _ (fun z => nb (.inl z)) eb
    · rw [List.map_append, ev, take_snoc gi]
      show rs.take i ++ [Fq.q ⟨x, y, hy, bx, by_⟩] = _
      unfold Fq.q
      rw [er]
  · obtain ⟨t', xs, fs, hq', lt', ut', hn', sx, eD, lv, hall, ev⟩ := h
    obtain ⟨ds, hds, hok, eds⟩ := hall.dq (K := K) (q := q) (.inl rfl)
    rw [lw, List.take_length] at ev
    exact k D H' t' xs ds sx hq' lt' (by rw [← lw]; exact ut') hD (hq.ne hD) eD hds hok (eds.trans ev)
end
theorem shn_fr {d : PyData} {n : Nat} (h : isFrD d = true) (b1 : Bt n (upD d)) (b2 : Bt n (dnD d)) (hn : 1 ≤ n) (l : n ≤ 1900) : ShN (n + 1) (2 * n + 3) 2 d := by
  rcases fr_shape h with ⟨i, rfl⟩ | ⟨x, y, hy, rfl | rfl⟩
  · exact (shn_int b1 hn l).mono (by omega) (by decide)
  · exact (sha_lst (sha_cons (shn_int b1 hn l) (sha_cons (shn_int b2 hn l) (sha_nil (W := 0))))).mono (by omega) (Nat.le_refl _)
  · exact (sha_tup (sha_cons (shn_int b1 hn l) (sha_cons (shn_int b2 hn l) (sha_nil (W := 0))))).mono (by omega) (Nat.le_refl _)
theorem sha_frs {n : Nat} (hn : 1 ≤ n) (l : n ≤ 1900) : ∀ {ds : List PyData}, (∀ d ∈ ds, isFrD d = true ∧ Bt n (upD d) ∧ Bt n (dnD d)) → ShA (n + 1) (ds.length * (2 * n + 4)) 2 ds
  | [], _ => sha_nil
  | d :: ds, h => by
    have t := sha_frs hn l (ds := ds) fun x hx => h x (List.mem_cons_of_mem _ hx)
    obtain ⟨h1, h2, h3⟩ := h d List.mem_cons_self
    have z := sha_cons (shn_fr h1 h2 h3 hn l) t
    refine ⟨z.sh, z.lv, z.nd, z.ly, ?_, z.dp⟩
    have w := z.wt
    rw [List.length_cons, Nat.succ_mul]
    omega
theorem frs_dp {q : Addr} {K : PySem.W.Frag} {H : Hp} : ∀ {vs : List V} {ds : List PyData}, DqAll q K H vs ds → (∀ d ∈ ds, isFrD d = true) → DpAll K H vs ds
  | _, _, .nil, _ => .nil
  | _, _, .cons (d := d) h t, f => by
    have fd := f d List.mem_cons_self
    have nd : noDct d = true := by
      rcases fr_shape fd with ⟨i, rfl⟩ | ⟨x, y, hy, rfl | rfl⟩ <;> rfl
    exact .cons (h.dp nd) (frs_dp t fun x hx => f x (List.mem_cons_of_mem _ hx))
/-- a list and a tuple of fractions, shown -/
theorem sha_lt {n L1 L2 : Nat} (hn : 1 ≤ n) (l : n ≤ 1900) {ds es : List PyData} (hd : ∀ d ∈ ds, isFrD d = true ∧ Bt n (upD d) ∧ Bt n (dnD d)) (he : ∀ d ∈ es, isFrD d = true ∧ Bt n (upD d) ∧ Bt n (dnD d)) (l1 : ds.length ≤ L1) (l2 : es.length ≤ L2) :
    ShN (n + 1) (L1 * (2 * n + 4) + 1 + 1 + (L2 * (2 * n + 4) + 1 + 1 + 0) + 1) 4 (.list [.list ds, .tuple es]) := by
  have a := (sha_lst (sha_frs hn l hd)).mono (W' := L1 * (2 * n + 4) + 1) (Nat.add_le_add_right (Nat.mul_le_mul_right _ l1) 1) (Nat.le_refl _)
  have b := (sha_tup (sha_frs hn l he)).mono (W' := L2 * (2 * n + 4) + 1) (Nat.add_le_add_right (Nat.mul_le_mul_right _ l2) 1) (Nat.le_refl _)
  exact sha_lst (sha_cons a (sha_cons b (sha_nil (W := 0))))
theorem dq_frt {q p : Addr} {K : PySem.W.Frag} {H : Hp} {xs : List V} {ds : List PyData} (hp : SqT K H p xs) (h : DqAll q K H xs ds) (f : ∀ d ∈ ds, isFrD d = true) : Dp K H (.ref p) (.tuple ds) := .tup hp (frs_dp h f)
theorem dq_frl {q p : Addr} {K : PySem.W.Frag} {H : Hp} {xs : List V} {ds : List PyData} (hp : SqL K H p xs) (h : DqAll q K H xs ds) (f : ∀ d ∈ ds, isFrD d = true) : Dp K H (.ref p) (.list ds) := .lst hp (frs_dp h f)
theorem rv_dp {p : Addr} {K : PySem.W.Frag} {H : Hp} {r : Rat} (e : H p = some (.tup (rv r))) : Dp K H (.ref p) (rd r) := .tup (tupU e) (.cons (.int _) (.cons (.int _) .nil))
def sp_long (K : PySem.W.Frag) : Sp := fun vs H Q _ => ∃ (q : Addr) (t : Int), vs = [.ref q] ∧ Qy K q t H ∧ t ≤ 900000 ∧ ∀ H', Q (.bl true) H'
end Mf
/-! a def that raises, as a contract -/
namespace Mf
open PySem PySem.Spec PySem.Calls PyProof.Rows L2
structure ClX (c : Cn) (k : Nat) (x : Str) (st : Stmt) (ps : List Str) (sp : Sp) : Prop where
  ex : ∃ (f : Addr) (fd : FuncData), FnG c.P c.w c.K c.mg c.base (L2.CX c.P c.w) k f fd ps sp ∧ c.mg x = some (.ref f) ∧ Fun c.K x x st f fd
theorem De.clX {c : Cn} {x : Str} {st : Stmt} {N ps : List Str} {k : Nat} {sp : Sp} (D : De c x st) (S : FnScope N ps (defScope st))
    (len : ∀ vs H Q E, sp vs H Q E → vs.length = ps.length)
    (hbody : ∀ (f : Addr) (cdv : Value) (A : Around) (outer : List Env) (s : Shared) (H : Hp) (vs : List V) (Q : VK) (E : XK),
      (A.deeper (envOfC x (defScope st) s.heap.objs.size f cdv)).guards = some [] →
      Room k (A.deeper (envOfC x (defScope st) s.heap.objs.size f cdv)) → sp vs H Q E →
      ∃ t, PSs (cxOf (L2.CX c.P c.w) c.P c.w c.K c.mg c.base N x (defScope st) f cdv A outer s H E) (defBody st) t ∧
        t { nx := fun _ H' => Q .non H', rt := Q } (start N vs) H) : ClX c (k + 1) x st ps sp := by
  obtain ⟨f, fd, hm, F⟩ := D.ex
  exact ⟨f, fd, okGX F S len (hbody f), hm, F⟩
section
variable {X : Cx} {k j : Nat} {ps : List Str} {sp : Sp} {x : Str} {p pos : Pos} {e : Expr} {es : List Expr} {t : TA} {st : Stmt} {E : L2.St → XK}
def tClX (sp : Sp) (E : L2.St → XK) (t : TA) : TE := fun σ H Q => t σ H fun vs H1 => sp vs H1 Q (E σ)
theorem pe_fX (c : ClX (cnOf X) k x st ps sp) (hA : X.A.guards = some []) (hr : Room j X.A) (hk : k ≤ j) (hp : Pl x st ps) (hg : Gl X x) (hx : ∀ σ, PassesAt (L2.CX X.prog X.w) X σ (E σ)) (ha : PA X (e :: es) t)
    (hdb : (x == ("__debug__" : Str)) = false := by decide) (he : starEach (e :: es) X.env = (false, eval e X.env) :: starEach es X.env := by rfl)
    (hpl : (backTo pos (starEach es X.env)).any (·.1) = false := by rfl) : PE X (.Call (.Name x p) (e :: es) [] pos) (tClX sp E t) := by
  obtain ⟨f, fd, F, hm, W⟩ := c.ex
  exact pe_callGS F hA (hr.mono hk) hg hm W.kp (W.binds hp) hx ha hdb he hpl
end
/-- a product of too many numbers -/
def sp_ptimesX (C : Addr) (K : PySem.W.Frag) : Sp := fun vs H Q E => ∃ q a b xs ys ds es n A B, vs = [.ref a, .ref b] ∧ a ≠ q ∧ b ≠ q ∧ Sq K H a xs ∧ Sq K H b ys ∧ DqAll q K H xs ds ∧ DqAll q K H ys es ∧
  (∀ d ∈ ds, isFrD d = true ∧ Bt n (upD d) ∧ Bt n (dnD d)) ∧ (∀ d ∈ es, isFrD d = true ∧ Bt n (upD d) ∧ Bt n (dnD d)) ∧ n ≤ 7000 ∧ ds.length ≤ 80 ∧ es.length ≤ 80 ∧ RbL A (trimR (ds.map valQ)) ∧ RbL B (trimR (es.map valQ)) ∧ 1 ≤ A ∧ 1 ≤ B ∧ (trimR (ds.map valQ)).length * A + A ≤ 3000 ∧ (trimR (es.map valQ)).length * B + B ≤ 3000 ∧ trimR (ds.map valQ) ≠ [] ∧ trimR (es.map valQ) ≠ [] ∧
  82 ≤ (trimR (ds.map valQ)).length + (trimR (es.map valQ)).length ∧ ∀ d H', H d = none → Same H H' → H' d = some (.xd [("most", .int 80), ("what", .str "numbers")]) → E (.ref C) (some d) H'
end Mf
namespace Mf
open PySem PySem.Spec PyProof.Rows L2
/-- whole numbers from 1 to 9 -/
def Nz (f : List Rat) : Prop := ∀ r ∈ f, ∃ z : Int, 1 ≤ z ∧ z ≤ 9 ∧ r = Rat.divInt z 1
theorem Nz.app {f g : List Rat} (hf : Nz f) (hg : Nz g) : Nz (f ++ g) := fun r hr => by
  rcases List.mem_append.mp hr with h | h
  · exact hf r h
  · exact hg r h
theorem Nz.take {f : List Rat} (h : Nz f) (n : Nat) : Nz (f.take n) := fun r hr => h r (List.mem_of_mem_take hr)
theorem Nz.snoc {f : List Rat} {z : Int} (h : Nz f) (z1 : 1 ≤ z) (z2 : z ≤ 9) : Nz (f ++ [Rat.divInt z 1]) := h.app fun r hr => ⟨z, z1, z2, List.mem_singleton.mp hr⟩
theorem bt4 {z : Int} (z1 : 0 ≤ z) (z2 : z ≤ 9) : Bt 4 z := by
  show z.natAbs < 2 ^ 4
  omega
theorem Nz.rb {f : List Rat} (h : Nz f) : RbL 4 f := fun r hr => by
  obtain ⟨z, z1, z2, rfl⟩ := h r hr
  exact Rb.of (by decide) (bt4 (by omega) z2) (bt4 (by decide) (by decide))
theorem Nz.at {f : List Rat} (h : Nz f) {i : Nat} (hi : i < f.length) : ∃ z : Int, 1 ≤ z ∧ z ≤ 9 ∧ co f i = Rat.divInt z 1 := by
  rw [co_get hi]
  exact h _ (List.getElem_mem hi)
theorem Nz.tr {f : List Rat} (h : Nz f) : Tr f := fun hne => by
  have l : 0 < f.length := List.length_pos_iff.mpr hne
  obtain ⟨z, z1, z2, e⟩ := h.at (i := f.length - 1) (by omega)
  rw [e]
  intro e0
  have e1 : Rat.divInt z 1 = Rat.divInt 0 1 := by rw [e0, Rat.zero_divInt]
  have := (Rat.divInt_eq_divInt_iff (by decide) (by decide)).mp e1
  omega
theorem Nz.sc {f : List Rat} (h : Nz f) (i : Nat) : Sc 1 4 (co f i) := by
  by_cases hi : i < f.length
  · obtain ⟨z, z1, z2, e⟩ := h.at hi
    exact ⟨z, e, bt4 (by omega) z2⟩
  · rw [co_ge (by omega)]
    exact Sc.zero
theorem Nz.conv {f g : List Rat} (hf : Nz f) (hg : Nz g) (l : f.length ≤ 40) : RbL 50 (conv f g) := RbL.of_co fun i hi => by
  rw [co_conv, ← cs_co]
  exact (sc_pc (by decide) (by decide) hf.sc hg.sc f.length i).rb (w := 1) (by decide) (show ((1 : Int) * 1).natAbs < 2 ^ 1 by decide) (by omega) (by decide)
theorem zeros2 : trimR ([PyData.int 0, .int 0].map valQ) = [] := by
  have e : ([PyData.int 0, .int 0].map valQ) = [0, 0] := by
    show [valQ (.int 0), valQ (.int 0)] = _
    rw [show valQ (.int 0) = 0 from zero1]
  rw [e]
  exact (tr_trim [0, 0]).ext (b := []) (fun h => absurd rfl h) fun i => by
    rw [co_trim, co_nil]
    match i with
    | 0 => rfl
    | 1 => rfl
    | i + 2 => exact co_ge (by simp)
theorem conv_nil (f : List Rat) : trimR (Mf.conv f []) = [] := (tr_trim _).ext (b := []) (fun h => absurd rfl h) fun i => by
  rw [co_trim, co_nil, co_conv, show (co []) = fun _ => (0 : Rat) from funext fun j => co_nil, ← cs_co]
  have key : ∀ m, cs (co f) (fun _ => (0 : Rat)) m i = 0 := by
    intro m
    induction m with
    | zero => rfl
    | succ m ih =>
      rw [cs_succ, ih]
      split <;> grind
  exact key _
theorem rv_half : rv (Rat.divInt (-1) 2) = [.int (-1), .int 2] := by decide +kernel
theorem rb_half : Rb 2 (Rat.divInt (-1) 2) := Rb.of (by decide) (show (-1 : Int).natAbs < 2 ^ 2 by decide) (show (2 : Int).natAbs < 2 ^ 2 by decide)
theorem Nz.val {f : List Rat} (h : Nz f) (l : f.length ≤ 80) (i : Nat) (hi : i ≤ f.length) : Rb 561 (evs (co f) (Rat.divInt (-1) 2) i) := by
  have b := Rb.hor (fun j => h.rb.co (by decide) j) rb_half i 0
  rw [hor_snoc, evs_congr (d := co f) (fun j => by rw [Nat.zero_add])] at b
  refine b.mono ?_
  omega
theorem slope_full (l : List Rat) : (fullS l).drop 1 = slope l := ext_co (by rw [List.length_drop, len_full, len_slope]) fun j => drop_full l j
theorem div_int (z : Int) : Rat.divInt z 1 = (z : Rat) := by
  have e := Rat.num_divInt_den (z : Rat)
  rw [show ((z : Rat)).num = z from rfl, show (((z : Rat)).den : Int) = 1 from rfl] at e
  exact e
theorem rv_int (z : Int) : rv (Rat.divInt z 1) = [.int z, .int 1] := by
  rw [show Rat.divInt z 1 = (z : Rat) from div_int z]
  rfl
theorem rv_mul (n : Nat) (z : Int) : rv ((n : Rat) * Rat.divInt z 1) = [.int ((n : Int) * z), .int 1] := by
  rw [← div_nat, Rat.divInt_mul_divInt, Int.one_mul]
  exact rv_int _
theorem rbl_full {l : List Rat} (h : Nz l) (hl : l.length ≤ 80) : RbL 14 (slope l) := (rbl_slope h.rb (by decide) (by omega)).mono (by decide)
/-- the kept error's fields -/
theorem g_eqNM {K : PySem.W.Frag} {H : Hp} {Q : VK} {p r : Addr} (hp : H p = some (.tup [.str "numbers", .int 80])) (hr : H r = some (.tup [.str "numbers", .int 80])) (q : Q (.bl true) H) : rEqU K (.ref p) (.ref r) H Q :=
  .inr ⟨.tuple [.str "numbers", .int 80], .tuple [.str "numbers", .int 80], .tup (tupU hp) (.cons (.str _) (.cons (.int _) .nil)), .tup (tupU hr) (.cons (.str _) (.cons (.int _) .nil)), by decide +kernel, by decide +kernel, by
    rw [show PyData.eqv (.tuple [.str "numbers", .int 80]) (.tuple [.str "numbers", .int 80]) = true by decide +kernel]
    exact q⟩
end Mf
/-! polynomials through points -/
namespace Mf
/-- what stands before (x - a) and behind -/
def syn (c : Nat → Rat) (a : Rat) (n : Nat) (i : Nat) : Rat := hor c a i (n - i)
theorem syn_step (c : Nat → Rat) (a : Rat) {n i : Nat} (h : i < n) : syn c a n i = syn c a n (i + 1) * a + c i := by
  unfold syn
  obtain ⟨m, hm⟩ : ∃ m, n - i = m + 1 := ⟨n - i - 1, by omega⟩
  rw [hm, show n - (i + 1) = m by omega]
  rfl
theorem syn_end (c : Nat → Rat) (a : Rat) (n : Nat) : syn c a n n = 0 := by
  unfold syn
  rw [Nat.sub_self]
  rfl
theorem syn_zero (c : Nat → Rat) (a : Rat) (n : Nat) : syn c a n 0 = evs c a n := by
  unfold syn
  rw [Nat.sub_zero, hor_snoc]
  exact evs_congr (fun i => by rw [Nat.zero_add]) a n
theorem syn_part (c : Nat → Rat) (a x : Rat) (n : Nat) : ∀ m, m ≤ n → evs c x m = syn c a n 0 - syn c a n m * x ^ m + (x - a) * evs (fun i => syn c a n (i + 1)) x m
  | 0, _ => by
    show (0 : Rat) = syn c a n 0 - syn c a n 0 * x ^ 0 + (x - a) * 0
    rw [Rat.pow_zero]
    grind
  | m + 1, h => by
    show evs c x m + c m * x ^ m = syn c a n 0 - syn c a n (m + 1) * x ^ (m + 1) + (x - a) * (evs (fun i => syn c a n (i + 1)) x m + syn c a n (m + 1) * x ^ m)
    rw [syn_part c a x n m (by omega), Rat.pow_succ]
    have := syn_step c a (n := n) (i := m) (by omega)
    grind
theorem no_zeros : ∀ (xs : List Rat) (c : Nat → Rat), xs.Nodup → (∀ x ∈ xs, evs c x xs.length = 0) → ∀ i, i < xs.length → c i = 0
  | [], _, _, _, i, hi => absurd hi (Nat.not_lt_zero i)
  | a :: as, c, nd, h, i, hi => by
    rw [List.nodup_cons] at nd
    have h0 : syn c a (as.length + 1) 0 = 0 := by
      rw [syn_zero]
      exact h a List.mem_cons_self
    have ih := no_zeros as (fun i => syn c a (as.length + 1) (i + 1)) nd.2 fun x hx => by
      have e := syn_part c a x (as.length + 1) (as.length + 1) (Nat.le_refl _)
      have hx0 : evs c x (as.length + 1) = 0 := h x (List.mem_cons_of_mem _ hx)
      rw [hx0, h0, syn_end] at e
      have e2 : evs (fun i => syn c a (as.length + 1) (i + 1)) x (as.length + 1) = evs (fun i => syn c a (as.length + 1) (i + 1)) x as.length + syn c a (as.length + 1) (as.length + 1) * x ^ as.length := rfl
      rw [e2, syn_end] at e
      have ne : x - a ≠ 0 := fun z => nd.1 (by
        have : x = a := by grind
        rw [← this]
        exact hx)
      have e3 : (x - a) * evs (fun i => syn c a (as.length + 1) (i + 1)) x as.length = 0 := by grind
      exact (Rat.mul_eq_zero.mp e3).resolve_left ne
    have all : ∀ j, j ≤ as.length + 1 → syn c a (as.length + 1) j = 0 := fun j hj => by
      cases j with
      | zero => exact h0
      | succ j =>
        by_cases z : j < as.length
        · exact ih j z
        · rw [show j + 1 = as.length + 1 by omega]
          exact syn_end _ _ _
    have s := syn_step c a (n := as.length + 1) (i := i) hi
    have hi : i < as.length + 1 := hi
    rw [all i (by omega), all (i + 1) (by omega)] at s
    grind
/-- just one polynomial through points -/
theorem val_uniq {f g xs : List Rat} (hf : Tr f) (hg : Tr g) (nd : xs.Nodup) (lf : f.length ≤ xs.length) (lg : g.length ≤ xs.length) (h : ∀ x ∈ xs, val f x = val g x) : f = g := by
  refine hf.ext hg fun i => ?_
  by_cases hi : i < xs.length
  · have z := no_zeros xs (fun i => co f i - co g i) nd (fun x hx => ?_) i hi
    · have z : co f i - co g i = 0 := z
      grind
    · have key : ∀ n, evs (fun i => co f i - co g i) x n = evs (co f) x n - evs (co g) x n := by
        intro n
        induction n with
        | zero => show (0 : Rat) = 0 - 0; grind
        | succ n ih =>
          show evs _ x n + (co f n - co g n) * x ^ n = (evs (co f) x n + co f n * x ^ n) - (evs (co g) x n + co g n * x ^ n)
          rw [ih]
          grind
      rw [key, val_ge lf, val_ge lg, h x hx]
      grind
  · rw [co_ge (by omega), co_ge (by omega)]
/-! ### integers: times a factor, and without one -/
def ic (P : List Int) (i : Nat) : Int := P.getD i 0
theorem ic_ge {P : List Int} {i : Nat} (h : P.length ≤ i) : ic P i = 0 := by
  unfold ic
  rw [List.getD_eq_getElem?_getD, List.getElem?_eq_none h]
  rfl
theorem ic_some {P : List Int} {i : Nat} {z : Int} (h : P[i]? = some z) : ic P i = z := by
  unfold ic
  rw [List.getD_eq_getElem?_getD, h]
  rfl
theorem ic_get {P : List Int} {i : Nat} (h : i < P.length) : P[i]? = some (ic P i) := by
  rw [List.getElem?_eq_getElem h, ic_some (List.getElem?_eq_getElem h)]
theorem ic_ext {a b : List Int} (hl : a.length = b.length) (h : ∀ i, ic a i = ic b i) : a = b := by
  refine List.ext_getElem? fun i => ?_
  by_cases z : i < a.length
  · rw [ic_get z, ic_get (by omega), h]
  · rw [List.getElem?_eq_none (by omega), List.getElem?_eq_none (by omega)]
/-- down x - up times P -/
def tf (a : Int × Int) (P : List Int) : List Int := (List.range (P.length + 1)).map fun i => a.2 * (if i = 0 then 0 else ic P (i - 1)) - a.1 * ic P i
theorem len_tf (a : Int × Int) (P : List Int) : (tf a P).length = P.length + 1 := by simp [tf]
theorem ic_tf (a : Int × Int) (P : List Int) (i : Nat) : ic (tf a P) i = a.2 * (if i = 0 then 0 else ic P (i - 1)) - a.1 * ic P i := by
  by_cases h : i < P.length + 1
  · refine ic_some ?_
    unfold tf
    rw [List.getElem?_map, List.getElem?_range h]
    rfl
  · rw [ic_ge (by rw [len_tf]; omega), if_neg (by omega), ic_ge (P := P) (i := i) (by omega), ic_ge (P := P) (i := i - 1) (by omega), Int.mul_zero, Int.mul_zero]
    rfl
theorem tf_comm (a b : Int × Int) (P : List Int) : tf a (tf b P) = tf b (tf a P) := by
  refine ic_ext (by rw [len_tf, len_tf, len_tf, len_tf]) fun i => ?_
  rw [ic_tf, ic_tf, ic_tf, ic_tf, ic_tf, ic_tf]
  match i with
  | 0 => simp only [if_pos]; grind
  | 1 => simp; grind
  | i + 2 =>
    rw [if_neg (by omega), if_neg (by omega), if_neg (by omega), if_neg (by omega)]
    grind
def prodF (L : List (Int × Int)) : List Int := L.foldl (fun P a => tf a P) [1]
theorem fold_tf (a : Int × Int) : ∀ (L : List (Int × Int)) (P : List Int), L.foldl (fun P a => tf a P) (tf a P) = tf a (L.foldl (fun P a => tf a P) P)
  | [], _ => rfl
  | b :: L, P => by
    show L.foldl _ (tf b (tf a P)) = tf a (L.foldl _ (tf b P))
    rw [tf_comm, fold_tf a L]
/-- the product, one factor taken out -/
theorem prod_out (L1 L2 : List (Int × Int)) (a : Int × Int) : prodF (L1 ++ a :: L2) = tf a (prodF (L1 ++ L2)) := by
  unfold prodF
  rw [List.foldl_append, List.foldl_append]
  exact fold_tf a L2 _
theorem len_prod : ∀ (L : List (Int × Int)) (P : List Int), (L.foldl (fun P a => tf a P) P).length = P.length + L.length
  | [], _ => rfl
  | a :: L, P => by
    show (L.foldl _ (tf a P)).length = _
    rw [len_prod L, len_tf, List.length_cons]
    omega
def ival (P : List Int) (x : Rat) : Rat := evs (fun i => (ic P i : Rat)) x P.length
theorem ival_ge {P : List Int} {x : Rat} {n : Nat} (h : P.length ≤ n) : evs (fun i => (ic P i : Rat)) x n = ival P x := evs_stop (fun k hk => by rw [ic_ge hk] <;> rfl) n h
theorem ival_tf (a : Int × Int) (P : List Int) (x : Rat) : ival (tf a P) x = ((a.2 : Rat) * x - (a.1 : Rat)) * ival P x := by
  have key : ∀ n, evs (fun i => (ic (tf a P) i : Rat)) x (n + 1) = (a.2 : Rat) * x * evs (fun i => (ic P i : Rat)) x n - (a.1 : Rat) * evs (fun i => (ic P i : Rat)) x (n + 1) := by
    intro n
    induction n with
    | zero =>
      show (0 : Rat) + (ic (tf a P) 0 : Rat) * x ^ 0 = (a.2 : Rat) * x * 0 - (a.1 : Rat) * (0 + (ic P 0 : Rat) * x ^ 0)
      rw [ic_tf, if_pos rfl, Rat.intCast_sub, Rat.intCast_mul, Rat.intCast_mul]
      grind
    | succ n ih =>
      have e1 : evs (fun i => (ic (tf a P) i : Rat)) x (n + 1 + 1) = evs (fun i => (ic (tf a P) i : Rat)) x (n + 1) + (ic (tf a P) (n + 1) : Rat) * x ^ (n + 1) := rfl
      have e2 : evs (fun i => (ic P i : Rat)) x (n + 1 + 1) = evs (fun i => (ic P i : Rat)) x (n + 1) + (ic P (n + 1) : Rat) * x ^ (n + 1) := rfl
      have e3 : evs (fun i => (ic P i : Rat)) x (n + 1) = evs (fun i => (ic P i : Rat)) x n + (ic P n : Rat) * x ^ n := rfl
      rw [e1, ih, e2, ic_tf, if_neg (by omega), Nat.add_sub_cancel, Rat.intCast_sub, Rat.intCast_mul, Rat.intCast_mul, e3, Rat.pow_succ]
      grind
  unfold ival
  rw [len_tf, key, ival_ge (Nat.le_refl _), ival_ge (by omega)]
  grind
/-- what a division by the factor asks at its step -/
theorem tf_div (a : Int × Int) (R : List Int) (hd : a.2 ≠ 0) (i : Nat) : (ic (tf a R) (i + 1) + a.1 * ic R (i + 1)) / a.2 = ic R i := by
  rw [ic_tf, if_neg (by omega), Nat.add_sub_cancel, Int.sub_add_cancel, Int.mul_ediv_cancel_left _ hd]
end Mf
namespace Mf
open PySem PySem.Spec PySem.Calls PyProof.Rows L2
/-! ### polynomials with integers -/
def ics (a b : Nat → Int) : Nat → Nat → Int
  | 0, _ => 0
  | i + 1, n => ics a b i n + (if i ≤ n then a i * b (n - i) else 0)
theorem ics_succ (a b : Nat → Int) (i n : Nat) : ics a b (i + 1) n = ics a b i n + (if i ≤ n then a i * b (n - i) else 0) := rfl
def iconv (us vv : List Int) : List Int := if us = [] ∨ vv = [] then [] else (List.range (us.length + vv.length - 1)).map (ics (ic us) (ic vv) us.length)
theorem iconv_no {us vv : List Int} (h : us = [] ∨ vv = []) : iconv us vv = [] := if_pos h
theorem len_iconv {us vv : List Int} (h1 : us ≠ []) (h2 : vv ≠ []) : (iconv us vv).length = us.length + vv.length - 1 := by
  unfold iconv
  rw [if_neg (fun h => h.elim h1 h2), List.length_map, List.length_range]
theorem get_iconv {us vv : List Int} (h1 : us ≠ []) (h2 : vv ≠ []) {j : Nat} (hj : j < us.length + vv.length - 1) : (iconv us vv)[j]? = some (ics (ic us) (ic vv) us.length j) := by
  unfold iconv
  rw [if_neg (fun h => h.elim h1 h2), List.getElem?_map, List.getElem?_range hj]
  rfl
def RetI (zs : List Int) (H : Hp) (Q : VK) : Prop := ∀ p H', Same H H' → H p = none → H' p = some (.lst (zs.map V.int)) → Q (.ref p) H'
def sp_twhole (K : PySem.W.Frag) : Sp := fun vs H Q _ => ∃ a b us vv A B, vs = [.ref a, .ref b] ∧ SqL K H a (us.map V.int) ∧ SqL K H b (vv.map V.int) ∧ (∀ u ∈ us, Bt A u) ∧ (∀ v ∈ vv, Bt B v) ∧ A + B ≤ 20000 ∧ us.length ≤ 200 ∧ vv.length ≤ 200 ∧ RetI (iconv us vv) H Q
theorem ic_mem {us : List Int} {i : Nat} (h : i < us.length) : ic us i ∈ us := List.mem_of_getElem? (ic_get h)
/-- rational numbers over one down -/
theorem ics_q {a b : Nat → Int} {c d : Nat → Rat} {D E : Int} (hD : D ≠ 0) (hE : E ≠ 0) (h1 : ∀ i, Rat.divInt (a i) D = c i) (h2 : ∀ i, Rat.divInt (b i) E = d i) : ∀ n j, Rat.divInt (ics a b n j) (D * E) = cs c d n j
  | 0, j => by show Rat.divInt 0 (D * E) = 0; rw [Rat.zero_divInt]
  | n + 1, j => by
    have DE : D * E ≠ 0 := Int.mul_ne_zero hD hE
    rw [ics_succ, cs_succ, ← ics_q hD hE h1 h2 n j]
    by_cases z : n ≤ j
    · rw [if_pos z, if_pos z, ← h1, ← h2, Rat.divInt_mul_divInt, Rat.divInt_add_divInt _ _ DE DE, ← Int.add_mul, Rat.divInt_mul_right DE]
    · rw [if_neg z, if_neg z, Int.add_zero, Rat.add_zero]
theorem trim_conv0 {f g : List Rat} (h : f = [] ∨ g = []) : trimR (conv f g) = [] := by
  show _ = trimR []
  refine trim_eq fun i => ?_
  rw [co_conv, co_nil]
  have key : ∀ (a b : Nat → Rat), (∀ j, a j = 0) ∨ (∀ j, b j = 0) → ∀ m, cs a b m i = 0 := fun a b z m => by
    induction m with
    | zero => rfl
    | succ m ih =>
      rw [cs_succ, ih]
      split
      · rcases z with z | z
        · rw [z, Rat.zero_mul, Rat.add_zero]
        · rw [z, Rat.mul_zero, Rat.add_zero]
      · exact Rat.add_zero _
  rcases h with rfl | rfl
  · exact key _ _ (.inl fun j => co_nil) _
  · exact key _ _ (.inr fun j => co_nil) _
theorem iconv_conv {f g : List Rat} {us vv : List Int} {D E : Int} (hD : D ≠ 0) (hE : E ≠ 0) (lu : us.length = f.length) (lv : vv.length = g.length) (h1 : ∀ i, Rat.divInt (ic us i) D = co f i) (h2 : ∀ i, Rat.divInt (ic vv i) E = co g i) (tf : Tr f) (tg : Tr g) : (iconv us vv).map (fun z => Rat.divInt z (D * E)) = trimR (conv f g) := by
  by_cases nf : f = []
  · rw [iconv_no (.inl (List.length_eq_zero_iff.mp (by rw [lu, nf]; rfl))), trim_conv0 (.inl nf)]
    rfl
  by_cases ng : g = []
  · rw [iconv_no (.inr (List.length_eq_zero_iff.mp (by rw [lv, ng]; rfl))), trim_conv0 (.inr ng)]
    rfl
  have nu : us ≠ [] := fun z => nf (List.length_eq_zero_iff.mp (by rw [← lu, z]; rfl))
  have nv : vv ≠ [] := fun z => ng (List.length_eq_zero_iff.mp (by rw [← lv, z]; rfl))
  rw [(tr_conv tf tg nf ng).trim]
  refine List.ext_getElem? fun j => ?_
  by_cases z : j < us.length + vv.length - 1
  · rw [List.getElem?_map, get_iconv nu nv z]
    unfold conv
    rw [List.getElem?_map, List.getElem?_range (by omega)]
    show some (Rat.divInt (ics (ic us) (ic vv) us.length j) (D * E)) = some (pc (co f) (co g) j)
    rw [ics_q hD hE h1 h2, lu, cs_co]
  · rw [List.getElem?_eq_none (by rw [List.length_map, len_iconv nu nv]; omega), List.getElem?_eq_none (by rw [len_conv]; omega)]
theorem divs_co {f : List Rat} {us : List Int} {D : Int} {P : Int → Prop} (lu : us.length = f.length) (h : ∀ j, j < f.length → ∃ u, us[j]? = some u ∧ Rat.divInt u D = co f j ∧ P u) (i : Nat) : Rat.divInt (ic us i) D = co f i := by
  by_cases z : i < f.length
  · obtain ⟨u, h1, h2, _⟩ := h i z
    rw [ic_some h1, h2]
  · rw [ic_ge (by omega), co_ge (by omega), Rat.zero_divInt]
theorem divs_bt {f : List Rat} {us : List Int} {D : Int} {P : Int → Prop} (lu : us.length = f.length) (h : ∀ j, j < f.length → ∃ u, us[j]? = some u ∧ Rat.divInt u D = co f j ∧ P u) : ∀ u ∈ us, P u := fun u hu => by
  obtain ⟨j, hj⟩ := List.mem_iff_getElem?.mp hu
  obtain ⟨v, h1, _, h3⟩ := h j (by have := (List.getElem?_eq_some_iff.mp hj).1; omega)
  rw [hj] at h1
  obtain rfl := Option.some.inj h1
  exact h3
end Mf
namespace Mf
open PySem PySem.Spec PySem.Calls PyProof.Rows L2
/-! ### list(reversed(xs)) -/
section
variable {prog : Program} {w : World} {A : Around} {E : Value → Shared → Prop} {s : Shared}
/-- what comes from behind, put into a list -/
theorem extend_rev {S it l : Addr} {items : Array Value} {res : Value} {c₀ : Nat} {R : Result → Shared → Prop} (hh : A.in1.handled = none) (hit : s.heap.IsRevIter it l ((items.size : Int) - 1)) (hl : s.heap.IsList l items) (hne : l ≠ it) (hn : items.size ≤ sizeLine)
    (hS : s.heap.get? S = some { cls := .type "list", data := .seq #[] c₀ }) (hSi : S ≠ it) (hSl : S ≠ l)
    (hR : ∀ (h' : Heap) (tk : Nat) (acc : Array Value) (c : Nat), (∀ b o, b ≠ S → b ≠ it → s.heap.get? b = some o → h'.get? b = some o) → h'.get? S = some { cls := .type "list", dict := none, data := .seq acc c, slots := #[] } →
      ItemsOf (fun i v => items[items.size - 1 - i]? = some v) acc items.size → R (.ok (.ret res)) { s with heap := h', toks := tk }) :
    wpAny (model prog w) A.in1 (Builtin.List.listExtendWith (.ref S) (.ref it) res)
      (fun fin s' => match fin with | .done f => R (.ok f) s' | .again c' => c'.quiet = true ∧ codeAny (model prog w) A c' R s') (fun e s' => R (.error e) s') s := by
  have W := (Walks.listRev (prog := prog) (w := w) (A := A.in1) hh it l hne items).toS
  have hSf : S ∉ [it, l] := by simp only [List.mem_cons, List.not_mem_nil, or_false, not_or]; exact ⟨hSi, hSl⟩
  have hT : s.TypeIs (.ref it) "list_reverseiterator" := hit.typeIs
  have h1 : Builtin.List.listSameRef (.ref S) (.ref it) = false := by simp [Builtin.List.listSameRef, hSi]
  unfold Builtin.List.listExtendWith
  refine wpAny_bind (wpAny_typeOf hT ?_)
  rw [if_neg (by rw [h1]; decide)]
  refine wpAny_bind (wpAny_pyIter_revIter hit ?_)
  refine wpAny_bind (wpAny_holding ?_)
  unfold Builtin.List.listLengthHint
  refine wpAny_bind (wpAny_specialOf hT RT.nolen_lri ?_)
  show wpAny _ A.in1 (specialOf (Value.ref it) (Str.ofString "__length_hint__") >>= _) _ _ _
  refine wpAny_bind (wpAny_specialOf hT RT.hint_lri ?_)
  generalize hid : ("list_reverseiterator.__length_hint__" : String) = id0
  wp_delta
  rw [show splitId id0 = some ("list_reverseiterator", "__length_hint__") from by subst hid; decide +kernel]
  subst hid
  refine wpAny_bind (wpAny_isInstance (b := true) hT (by rw [isSubtype_type]; kernel_rfl) ?_)
  refine wpAny_pure ?_
  rw [if_neg (by decide)]
  have e0 : ((items.size : Nat) : Int) - 1 - ((0 : Nat) : Int) = (items.size : Int) - 1 := by omega
  refine wpAny_pure ⟨plainId_quiet F.plain_extend_loop _, codeAny_extend_loopS W hn _ hSf _ items.size 0 _ _ _ rfl (Nat.zero_le _) ⟨Nat.zero_le _, by rw [e0]; exact hit, hl⟩ hS (ItemsOf.nil _) fun s' acc' c' hm hS' hacc => ?_⟩
  rw [Moved.eq_with hm]
  refine hR s'.heap s'.toks acc' c' (fun b o h1 h2 e => hm.heap b o (fun hmem => ?_) e) hS' hacc
  rcases List.mem_cons.mp hmem with e' | hmem
  · exact h1 e'
  · exact h2 (List.mem_singleton.mp hmem)
theorem call_list_rev {it l : Addr} {items : Array Value} {Q : Value → Shared → Prop} (hh : A.handled = none) (hit : s.heap.IsRevIter it l ((items.size : Int) - 1)) (hl : s.heap.IsList l items) (hne : l ≠ it) (hn : items.size ≤ sizeLine)
    (hQ : ∀ (h' : Heap) (tk : Nat) (acc : Array Value) (c : Nat), (∀ b o, b ≠ it → s.heap.get? b = some o → h'.get? b = some o) → h'.get? s.heap.objs.size = some { cls := .type "list", dict := none, data := .seq acc c, slots := #[] } →
      ItemsOf (fun i v => items[items.size - 1 - i]? = some v) acc items.size → Q (.ref s.heap.objs.size) { s with heap := h', toks := tk }) :
    wpAny (model prog w) A (call (.type "list") [.ref it]) Q E s := by
  obtain ⟨oi, hoi, _⟩ := id hit
  obtain ⟨ol, hol, _⟩ := id hl
  have hSi : s.heap.objs.size ≠ it := Nat.ne_of_gt (Heap.lt_size hoi)
  have hSl : s.heap.objs.size ≠ l := Nat.ne_of_gt (Heap.lt_size hol)
  refine callType_codes (Q₁ := fun obj s₁ => obj = .ref s.heap.objs.size ∧ s₁ = { s with heap := s.heap.push { cls := .type "list", data := .seq #[] } }) F.called_list (F.typeCall_list_1 _) F.entry_list_init
    (code_list_new _ ⟨rfl, rfl⟩) fun obj s₁ h₁ => ?_
  obtain ⟨rfl, rfl⟩ := h₁
  have hS : (s.heap.push { cls := .type "list", data := .seq #[] }).get? s.heap.objs.size = some { cls := .type "list", data := .seq #[] } := Heap.get?_push_size _ rfl
  refine ⟨⟨_, hS, rfl⟩, F.args_list_init_2 _ _, ?_⟩
  show wpAny _ _ (do let old ← Builtin.List.listItems (.ref s.heap.objs.size); Builtin.List.listUpdate (.ref s.heap.objs.size) (fun _ => #[]); letGo old.toList.reverse; Builtin.List.listExtendWith (.ref s.heap.objs.size) (.ref it) .none) _ _ _
  refine wpAny_bind ?_
  unfold Builtin.List.listItems
  refine wpAny_bind (wpAny_seqItems hS rfl (wpAny_pure ?_))
  show wpAny _ _ (updateSeq s.heap.objs.size (fun _ => #[]) >>= fun _ => letGo (#[] : Array Value).toList.reverse >>= fun _ => Builtin.List.listExtendWith (.ref s.heap.objs.size) (.ref it) .none) _ _ _
  refine wpAny_bind (wpAny_updateSeq hS rfl ?_)
  have hS₂ := Heap.get?_update_self (Obj.mapSeq (fun _ => (#[] : Array Value))) hS rfl
  have oth : ∀ b o, b ≠ s.heap.objs.size → s.heap.get? b = some o → ((s.heap.push { cls := .type "list", data := .seq #[] }).update s.heap.objs.size (Obj.mapSeq (fun _ => (#[] : Array Value)))).get? b = some o :=
    fun b o hb e => (Heap.get?_update_other _ _ (Ne.symm hb)).trans (Heap.get?_push_of_some _ e)
  refine wpAny_bind (wpAny_letGo ?_)
  refine extend_rev (A := A.in1) hh (hit.at fun o e => oth _ o (Ne.symm hSi) e) ?_ hne hn hS₂ hSi hSl fun h' tk acc c hk hS' hacc => ?_
  · obtain ⟨o, h1, h2, n, h3⟩ := id hl
    exact ⟨o, oth _ _ (Ne.symm hSl) h1, h2, n, h3⟩
  · exact ⟨rfl, hQ h' tk acc c (fun b o hb e => hk b o (Nat.ne_of_lt (Heap.lt_size e)) hb (oth b o (Nat.ne_of_lt (Heap.lt_size e)) e)) hS' hacc⟩
end
def tLstRev (K : PySem.W.Frag) (te : TE) : TE := fun σ H Q => te σ H fun v H1 => ∃ (a : Addr) (xs : List V), v = .ref a ∧ SqL K H1 a xs ∧ ∀ q, H1 q = none → Q (.ref q) (upd H1 q (.lst xs.reverse))
section
variable {X : Cx}
theorem pe_lstRev {e : Expr} {te : TE} {p p2 pos pos2 : Pos} (hc : X.calm = true) (hg : Gl X "list") (hm : X.mg "list" = none) (hg2 : Gl X "reversed") (hm2 : X.mg "reversed" = none) (he : PE X e te)
    (hs : starEach [e] X.env = (false, eval e X.env) :: starEach [] X.env := by rfl)
    (hs2 : starEach [.Call (.Name "reversed" p2) [e] [] pos2] X.env = (false, eval (.Call (.Name "reversed" p2) [e] [] pos2) X.env) :: starEach [] X.env := by rfl) :
    PE X (.Call (.Name "list" p) [.Call (.Name "reversed" p2) [e] [] pos2] [] pos) (tLstRev X.K te) := by
  refine ⟨fun pins s σ H Q I h => ?_⟩
  refine Call_ (ld_blt I hg hm boot_list (PyProof.Rows.callWith_type1 (args_cons (Call_ (ld_blt I hg2 hm2 PyProof.Rows.boot_reversed (PyProof.Rows.callWith_type1 (args_cons (thn (he.run pins s σ H _ I h) fun u s1 ⟨v, H1, I1, r1, q1⟩ => args_nil ?_) hs) hs rfl))) hs2) hs2 rfl))
  obtain ⟨a, xs, ev, hq, q⟩ := q1
  subst ev
  obtain rfl : u = Value.ref a := r1
  obtain ⟨its, rv, p', hz⟩ := I1.list hq
  refine call_reversed_list p'.isList (args_nil ?_)
  have k0 : ∀ b o, s1.heap.get? b = some o → (s1.heap.push (revObj a ((its.toArray.size : Int) - 1))).get? b = some o := fun b o e => Heap.get?_push_of_some _ e
  have I2 : Inv X pins σ H1 { s1 with heap := s1.heap.push (revObj a ((its.toArray.size : Int) - 1)) } := I1.kept (t' := s1.toks) k0
  obtain ⟨f0, f1, f2, f3, f4, f5⟩ := I1.fpOk (H' := H1) (b := s1.heap.objs.size) (Nat.le_refl _) (I1.hok.fresh (Nat.le_refl _))
  have hl := p'.isList
  obtain ⟨ol, hol, _⟩ := id hl
  have hne : a ≠ s1.heap.objs.size := Nat.ne_of_lt (Heap.lt_size hol)
  have hn : its.toArray.size ≤ sizeLine := by rw [List.size_toArray, ← rv.length]; exact hz
  refine call_list_rev (s := { s1 with heap := s1.heap.push (revObj a ((its.toArray.size : Int) - 1)) }) (I1.ok.hd hc) ⟨_, Heap.get?_push_size _ rfl, rfl, rfl⟩ (hl.push _) hne hn fun h' tk acc c hk hS hi => ?_
  have hsz : (s1.heap.push (revObj a ((its.toArray.size : Int) - 1))).objs.size = s1.heap.objs.size + 1 := Heap.size_push ..
  have I3 : Inv X pins σ H1 { s1 with heap := h', toks := tk } := I2.turned (t' := tk) (fun b o hb e => hk b o hb e) f0 f1 f3 f4 f5
  rw [hsz] at hS ⊢
  have lt : ∀ {b : Addr} {o : Obj}, s1.heap.get? b = some o → b ≠ s1.heap.objs.size + 1 := fun {b o} e z => by
    have h := Heap.lt_size e
    rw [z] at h
    exact Nat.lt_irrefl _ (Nat.lt_of_succ_lt h)
  have hn1 : H1 (s1.heap.objs.size + 1) = none := I1.hok.fresh (Nat.le_succ _)
  have okS : ObjOk X.prog X.w (upd H1 (s1.heap.objs.size + 1) (.lst xs.reverse)) h' (s1.heap.objs.size + 1) (.lst xs.reverse) := by
    refine ⟨by rw [List.length_reverse]; exact hz, acc.toList, c, RT.vals_rev rv hi, ?_⟩
    rw [Array.toArray_toList]
    exact hS
  have I4 : Inv X pins σ (upd H1 (s1.heap.objs.size + 1) (.lst xs.reverse)) { s1 with heap := h', toks := tk } := by
    refine Inv.track I3 hn1 (fun o e => ?_) (fun z => ?_) (fun y cc e z => ?_) (fun p hp z => ?_) okS
    · by_cases z : s1.heap.objs.size + 1 ∈ X.ex
      · exact z
      · obtain ⟨o', e'⟩ := I1.base.there _ o e z
        exact absurd rfl (lt e')
    · have h := I1.lt
      rw [← z] at h
      exact Nat.lt_irrefl _ (Nat.lt_of_succ_lt h)
    · obtain ⟨v, o, ho, _⟩ := I1.cell y cc e
      exact lt ho z
    · exact lt (I1.pin p hp).1 z
  exact ⟨.ref (s1.heap.objs.size + 1), _, I4, rfl, q _ hn1⟩
end
end Mf
namespace Mf
open PySem PySem.Spec PySem.Calls PyProof.Rows L2
section
variable {X : Cx} {K : PySem.W.Frag} {σ : L2.St} {H H1 : Hp} {Q : VK} {te : TE} {tt : TT} {vs : List Nat}
/-- len of a set of tuples -/
def rLenST (K : PySem.W.Frag) (P : Program) (w : World) : List V → Hp → VK → Prop := fun xs H Q => ∃ (a : Addr) (L : List (Addr × List Int)), xs = [.ref a] ∧ H a = some (SetTO P w a L) ∧ (∀ p ∈ L, SqT K H p.1 (p.2.map V.int)) ∧ ((L.map (·.2)).Nodup → Q (.int L.length) H)
theorem call_lenST : CallR X (.builtin "len") (rLenST X.K X.prog X.w) := by
  intro pins s σ H xs us Q I r h
  obtain ⟨a, L, rfl, ha, ht, q⟩ := h
  rw [Vals.ref1 r]
  have x : ObjOk X.prog X.w H s.heap a (SetTO X.prog X.w a L) := I.hok a _ ha
  have R0 : SetT0 X.prog X.w s.heap a L := x.1
  obtain ⟨es, ep, t, R⟩ := R0.full fun p hp => I.isT (ht p hp)
  obtain ⟨o, ho, hex, hd⟩ := R.ob
  have few := R.few
  have sz := R.size
  exact call_len_set ho hex hd R.fits (by rw [sz]; omega) ⟨.int L.length, H, I.tok _, ⟨_, by rw [sz]⟩, q R.nd⟩
/-- zip of two lists, unpacked into two names -/
theorem lcgo_zip {a b : Addr} {xs ys : List V} {i j : Nat} (Pv : Addr → Nat → Hp → Prop) (hl : xs.length = ys.length) (hw : ∀ x y, wipe (((wipe σ vs).set i (some x)).set j (some y)) vs = wipe σ vs)
    (h0 : ∀ D, H1 D = none → Pv D 0 (upd H1 D (.lst []))) (hq : ∀ D n H, n ≤ xs.length → Pv D n H → SqL K H a xs ∧ SqL K H b ys)
    (hs : ∀ D n x y T H, H1 D = none → xs[n]? = some x → ys[n]? = some y → Pv D n H → H T = none → tt (((wipe σ vs).set i (some x)).set j (some y)) (upd H T (.tup [x, y])) fun c H3 =>
      if c = true then te (((wipe σ vs).set i (some x)).set j (some y)) H3 fun z H4 => ∃ acc, H4 D = some (.lst acc) ∧ acc.length < sizeLine ∧ Pv D (n + 1) (upd H4 D (.lst (acc ++ [z]))) else Pv D (n + 1) H3)
    (hd : ∀ D H, H1 D = none → Pv D xs.length H → Q (.ref D) H) : LcGo (Itz K a b) (g2 K i j) tt te vs σ H1 Q := by
  intro D hD
  refine ⟨fun n m H => m = xs.length - n ∧ n ≤ xs.length ∧ Pv D n H, ⟨xs.length, by omega, Nat.zero_le _, h0 D hD⟩, ?_⟩
  rintro n m H ⟨rfl, hi, p⟩
  obtain ⟨qx, qy⟩ := hq D n H hi p
  by_cases hlt : n < xs.length
  · have hlt2 : n < ys.length := by omega
    refine .inr ⟨⟨xs, ys, xs[n], ys[n], qx, qy, List.getElem?_eq_getElem hlt, List.getElem?_eq_getElem hlt2⟩, Pv D (n + 1), fun H' p' => ⟨xs.length - (n + 1), by omega, rfl, hlt, p'⟩, fun v H' yl => ?_⟩
    obtain ⟨T, x, y, rfl, nT, rfl, f1, f2⟩ := yl
    exact g_pair (tupU upd_same) ⟨hw _ _, hs D n x y T H hD (f1 xs qx) (f2 ys qy) p nT⟩
  · have e : n = xs.length := by omega
    subst e
    exact .inl ⟨⟨xs, ys, qx, qy, .inl (Nat.le_refl _)⟩, hd D H hD p⟩
theorem g_lcZ {ta : TA} {g : TG} (q : ta σ H fun us H1 => ∃ a b xs ys, us = [.ref a, .ref b] ∧ SqL K H1 a xs ∧ SqL K H1 b ys ∧ LcGo (Itz K a b) g tt te vs σ H1 Q) : tLc (iZip K ta) g tt te vs σ H Q := q
/-- x *= e -/
def ipM : TIp := fun x y H Q => ∃ (i j : Int) (m n : Nat), x = .int i ∧ y = .int j ∧ Bt m i ∧ Bt n j ∧ m + n ≤ 900000 ∧ Q (.int (i * j)) H
theorem ip_mulB : PIp X .Mult ipM := by
  intro pins s σ H x y v u Q I r1 r2 h
  obtain ⟨i, j, m, n, rfl, rfl, b1, b2, l, q⟩ := h
  obtain ⟨t, rfl⟩ := r1
  obtain ⟨t', rfl⟩ := r2
  have c : CMulW i j := wide_mul (a := m + 1) (b := n + 1) (Nat.lt_of_lt_of_le b1 (Nat.pow_le_pow_right (by decide) (by omega))) (Nat.lt_of_lt_of_le b2 (Nat.pow_le_pow_right (by decide) (by omega))) (by omega) (by omega) (by omega)
  exact imul_int ⟨.int _, H, I.tok _, ⟨_, rfl⟩, q⟩ c.ok
/-- a list of pairs, unpacked into two names -/
theorem lcgo_listP {a : Addr} {xs : List V} {i j : Nat} (Pv : Addr → Nat → Hp → Prop) (hw : ∀ x y, wipe (((wipe σ vs).set i (some x)).set j (some y)) vs = wipe σ vs)
    (h0 : ∀ D, H1 D = none → Pv D 0 (upd H1 D (.lst []))) (hl : ∀ D n H, n ≤ xs.length → Pv D n H → SqL K H a xs)
    (hs : ∀ D n x H, H1 D = none → xs[n]? = some x → Pv D n H → ∃ p u v, x = .ref p ∧ SqT K H p [u, v] ∧ (tt (((wipe σ vs).set i (some u)).set j (some v)) H fun c H3 =>
      if c = true then te (((wipe σ vs).set i (some u)).set j (some v)) H3 fun z H4 => ∃ acc, H4 D = some (.lst acc) ∧ acc.length < sizeLine ∧ Pv D (n + 1) (upd H4 D (.lst (acc ++ [z]))) else Pv D (n + 1) H3))
    (hd : ∀ D H, H1 D = none → Pv D xs.length H → Q (.ref D) H) : LcGo (Itl K a) (g2 K i j) tt te vs σ H1 Q := by
  intro D hD
  refine ⟨fun n m H => m = xs.length - n ∧ n ≤ xs.length ∧ Pv D n H, ⟨xs.length, by omega, Nat.zero_le _, h0 D hD⟩, ?_⟩
  rintro n m H ⟨rfl, hi, p⟩
  have q := hl D n H hi p
  by_cases hlt : n < xs.length
  · refine .inr ⟨⟨xs, xs[n], q, List.getElem?_eq_getElem hlt⟩, Pv D (n + 1), fun H' p' => ⟨xs.length - (n + 1), by omega, rfl, hlt, p'⟩, fun x H' yl => ?_⟩
    obtain ⟨rfl, f⟩ := yl
    obtain ⟨b, u, v, rfl, hb, k⟩ := hs D n x _ hD (f xs q) p
    exact g_pair hb ⟨hw _ _, k⟩
  · have e : n = xs.length := by omega
    subst e
    exact .inl ⟨⟨xs, q, Nat.le_refl _⟩, hd D H hD p⟩
end
end Mf
namespace Mf
open PySem PySem.Spec PySem.Calls PyProof.Rows L2
/-- what a pair of fractions tells -/
def xy : PyData → Rat × Rat
  | .list [a, b] | .tuple [a, b] => (valQ a, valQ b)
  | _ => (0, 0)
def PtOk (n : Nat) (d : PyData) : Prop := ∃ a b, (d = .list [a, b] ∨ d = .tuple [a, b]) ∧ (isFrD a = true ∧ Bt n (upD a) ∧ Bt n (dnD a)) ∧ (isFrD b = true ∧ Bt n (upD b) ∧ Bt n (dnD b))
theorem PtOk.pl {n : Nat} {d : PyData} (h : PtOk n d) : isPlD d = true := by
  obtain ⟨a, b, e, ha, hb⟩ := h
  rw [(frD_of e).2, ha.1, hb.1] <;> rfl
section
variable {q : Addr} {K : PySem.W.Frag} {H H' : Hp}
theorem PtOk.un {n : Nat} {x : V} {d : PyData} (h : PtOk n d) (hd : Dq q K H x d) : ∃ b u v, x = .ref b ∧ b ≠ q ∧ Sq K H b [u, v] ∧ Fr q K H u (xy d).1 n ∧ Fr q K H v (xy d).2 n := by
  obtain ⟨a, b, e, ha, hb⟩ := h
  rcases e with rfl | rfl
  · cases hd with
    | lst nq hs hall =>
      cases hall with
      | cons h1 t => cases t with
        | cons h2 t => cases t; exact ⟨_, _, _, rfl, nq, .inl hs, Fr.of h1 ha.1 ha.2.1 ha.2.2, Fr.of h2 hb.1 hb.2.1 hb.2.2⟩
  · cases hd with
    | tup nq hs hall =>
      cases hall with
      | cons h1 t => cases t with
        | cons h2 t => cases t; exact ⟨_, _, _, rfl, nq, .inr hs, Fr.of h1 ha.1 ha.2.1 ha.2.2, Fr.of h2 hb.1 hb.2.1 hb.2.2⟩
end
/-- pairs of reduced fractions on the heap -/
inductive PP (H : Hp) : List V → List (Rat × Rat) → Prop
  | nil : PP H [] []
  | cons {a p1 p2 : Addr} {r : Rat × Rat} {vs : List V} {rs : List (Rat × Rat)} : H a = some (.tup [.ref p1, .ref p2]) → H p1 = some (.tup (rv r.1)) → H p2 = some (.tup (rv r.2)) → PP H vs rs → PP H (.ref a :: vs) (r :: rs)
theorem PP.go {H H' : Hp} (s : KeepT H H') : ∀ {vs : List V} {rs : List (Rat × Rat)}, PP H vs rs → PP H' vs rs
  | _, _, .nil => .nil
  | _, _, .cons e e1 e2 t => .cons (s _ _ e) (s _ _ e1) (s _ _ e2) (PP.go s t)
theorem PP.len {H : Hp} : ∀ {vs : List V} {rs : List (Rat × Rat)}, PP H vs rs → vs.length = rs.length
  | _, _, .nil => rfl
  | _, _, .cons _ _ _ t => congrArg Nat.succ (PP.len t)
theorem PP.get {H : Hp} : ∀ {vs : List V} {rs : List (Rat × Rat)} {i : Nat} {v : V}, PP H vs rs → vs[i]? = some v → ∃ a p1 p2 r, v = .ref a ∧ rs[i]? = some r ∧ H a = some (.tup [.ref p1, .ref p2]) ∧ H p1 = some (.tup (rv r.1)) ∧ H p2 = some (.tup (rv r.2))
  | _, _, _, _, .nil, h => by cases h
  | _, _, 0, _, .cons e e1 e2 _, h => by
    cases h
    exact ⟨_, _, _, _, rfl, rfl, e, e1, e2⟩
  | _, _, i + 1, v, .cons _ _ _ t, h => PP.get (i := i) (v := v) t h
theorem PP.snoc {H : Hp} {a p1 p2 : Addr} {r : Rat × Rat} (e : H a = some (.tup [.ref p1, .ref p2])) (e1 : H p1 = some (.tup (rv r.1))) (e2 : H p2 = some (.tup (rv r.2))) : ∀ {vs : List V} {rs : List (Rat × Rat)}, PP H vs rs → PP H (vs ++ [.ref a]) (rs ++ [r])
  | _, _, .nil => .cons e e1 e2 .nil
  | _, _, .cons g g1 g2 t => .cons g g1 g2 (PP.snoc e e1 e2 t)
/-- reduced fractions as keys -/
def keyOf (r : Rat) : List Int := [r.num, (r.den : Int)]
theorem key_inj {r s : Rat} (h : keyOf r = keyOf s) : r = s := by
  unfold keyOf at h
  simp only [List.cons.injEq, and_true, Int.natCast_inj] at h
  exact Rat.ext h.1 h.2
theorem TL.keys {H : Hp} : ∀ {vs : List V} {rs : List Rat}, TL H vs rs → ∃ ks : List (Addr × List Int), vs = ks.map (fun p => V.ref p.1) ∧ (∀ p ∈ ks, H p.1 = some (.tup (p.2.map V.int))) ∧ ks.map (·.2) = rs.map keyOf
  | _, _, .nil => ⟨[], rfl, fun p h => absurd h List.not_mem_nil, rfl⟩
  | _, _, .cons (a := a) (r := r) e t => by
    obtain ⟨ks, h1, h2, h3⟩ := TL.keys t
    refine ⟨(a, keyOf r) :: ks, by rw [h1]; rfl, fun p hp => ?_, by rw [List.map_cons, List.map_cons, h3]⟩
    rcases List.mem_cons.mp hp with rfl | hp
    · exact e
    · exact h2 p hp
theorem keys_len {ks L : List (Addr × List Int)} (h1 : (ks.map (·.2)).Nodup) (h2 : (L.map (·.2)).Nodup) (h3 : ∀ p ∈ L, p ∈ ks) (h4 : ∀ p ∈ ks, p.2 ∈ L.map (·.2)) : L.length = ks.length := by
  have hp : (L.map (·.2)).Perm (ks.map (·.2)) := (List.perm_ext_iff_of_nodup h2 h1).mpr fun x => ⟨fun hx => by
    obtain ⟨p, hp, rfl⟩ := List.mem_map.mp hx
    exact List.mem_map.mpr ⟨p, h3 p hp, rfl⟩, fun hx => by
    obtain ⟨p, hp, rfl⟩ := List.mem_map.mp hx
    exact h4 p hp⟩
  have := hp.length_eq
  rw [List.length_map, List.length_map] at this
  exact this
theorem keys_nodup {rs : List Rat} (h : rs.Nodup) : (rs.map keyOf).Nodup := by
  rw [List.nodup_iff_pairwise_ne] at *
  rw [List.pairwise_map]
  exact h.imp fun ne e => ne (key_inj e)
def sp_rpts (K : PySem.W.Frag) : Sp := fun vs H Q _ => ∃ q a xs ds n, vs = [.ref a] ∧ a ≠ q ∧ Sq K H a xs ∧ DqAll q K H xs ds ∧ (∀ d ∈ ds, PtOk n d) ∧ n ≤ 7000 ∧ ds.length ≤ 40 ∧ (ds.map fun d => (xy d).1).Nodup ∧
  ∀ L H' vs, Same H H' → H L = none → H' L = some (.lst vs) → PP H' vs (ds.map xy) → Q (.ref L) H'
/-- integers in a list -/
def IL (H : Hp) (L : Addr) (P : List Int) : Prop := H L = some (.lst (P.map V.int))
def sp_tfac (K : PySem.W.Frag) : Sp := fun vs H Q _ => ∃ (l p : Addr) (P : List Int) (r : Rat) (m n : Nat), vs = [.ref l, .ref p] ∧ IL H l P ∧ H p = some (.tup (rv r)) ∧ Rb n r ∧ (∀ i, Bt m (ic P i)) ∧ m + n ≤ 800000 ∧ P.length ≤ 200 ∧ ∀ L H', Same H H' → H L = none → IL H' L (tf (r.num, (r.den : Int)) P) → Q (.ref L) H'
def sp_wfac (K : PySem.W.Frag) : Sp := fun vs H Q _ => ∃ (l p : Addr) (R : List Int) (r : Rat) (m n : Nat), vs = [.ref l, .ref p] ∧ IL H l (tf (r.num, (r.den : Int)) R) ∧ H p = some (.tup (rv r)) ∧ Rb n r ∧ n ≤ 800 ∧ (∀ i, Bt m (ic R i)) ∧ m + n ≤ 800000 ∧ R.length ≤ 200 ∧ ∀ L H', Same H H' → H L = none → IL H' L R → Q (.ref L) H'
end Mf
namespace Mf
open PySem PySem.Spec PySem.Calls PyProof.Rows L2
section
variable {X : Cx} {K : PySem.W.Frag} {σ : L2.St} {H H1 : Hp} {Q : VK} {te : TE} {tt : TT} {vs : List Nat}
abbrev g2O (K : PySem.W.Frag) (i j : Nat) : TG := fun v σ H R => gTup K 2 (gCons (gName i) (gCons (gName j) gNil)) v σ H R ∨ gUnl K 2 (gCons (gName i) (gCons (gName j) gNil)) v σ H R
theorem g_pairO {i j : Nat} {a : Addr} {x y : V} {R : L2.St → Hp → Prop} (h : Sq K H a [x, y]) (q : R ((σ.set i (some x)).set j (some y)) H) : g2O K i j (.ref a) σ H R := by
  rcases h with h | h
  · exact .inr ⟨a, [x, y], rfl, h, rfl, x, [y], rfl, y, [], rfl, rfl, q⟩
  · exact .inl ⟨a, [x, y], rfl, h, rfl, x, [y], rfl, y, [], rfl, rfl, q⟩
theorem lcgo_listO {a : Addr} {xs : List V} {i j : Nat} (Pv : Addr → Nat → Hp → Prop) (hw : ∀ x y, wipe (((wipe σ vs).set i (some x)).set j (some y)) vs = wipe σ vs)
    (h0 : ∀ D, H1 D = none → Pv D 0 (upd H1 D (.lst []))) (hl : ∀ D n H, n ≤ xs.length → Pv D n H → SqL K H a xs)
    (hs : ∀ D n x H, H1 D = none → xs[n]? = some x → Pv D n H → ∃ p u v, x = .ref p ∧ Sq K H p [u, v] ∧ (tt (((wipe σ vs).set i (some u)).set j (some v)) H fun c H3 =>
      if c = true then te (((wipe σ vs).set i (some u)).set j (some v)) H3 fun z H4 => ∃ acc, H4 D = some (.lst acc) ∧ acc.length < sizeLine ∧ Pv D (n + 1) (upd H4 D (.lst (acc ++ [z]))) else Pv D (n + 1) H3))
    (hd : ∀ D H, H1 D = none → Pv D xs.length H → Q (.ref D) H) : LcGo (Itl K a) (g2O K i j) tt te vs σ H1 Q := by
  intro D hD
  refine ⟨fun n m H => m = xs.length - n ∧ n ≤ xs.length ∧ Pv D n H, ⟨xs.length, by omega, Nat.zero_le _, h0 D hD⟩, ?_⟩
  rintro n m H ⟨rfl, hi, p⟩
  have q := hl D n H hi p
  by_cases hlt : n < xs.length
  · refine .inr ⟨⟨xs, xs[n], q, List.getElem?_eq_getElem hlt⟩, Pv D (n + 1), fun H' p' => ⟨xs.length - (n + 1), by omega, rfl, hlt, p'⟩, fun x H' yl => ?_⟩
    obtain ⟨rfl, f⟩ := yl
    obtain ⟨b, u, v, rfl, hb, k⟩ := hs D n x _ hD (f xs q) p
    exact g_pairO hb ⟨hw _ _, k⟩
  · have e : n = xs.length := by omega
    subst e
    exact .inl ⟨⟨xs, q, Nat.le_refl _⟩, hd D H hD p⟩
theorem lcgo_tupO {a : Addr} {xs : List V} {i j : Nat} (Pv : Addr → Nat → Hp → Prop) (hw : ∀ x y, wipe (((wipe σ vs).set i (some x)).set j (some y)) vs = wipe σ vs)
    (h0 : ∀ D, H1 D = none → Pv D 0 (upd H1 D (.lst []))) (hl : ∀ D n H, n ≤ xs.length → Pv D n H → SqT K H a xs)
    (hs : ∀ D n x H, H1 D = none → xs[n]? = some x → Pv D n H → ∃ p u v, x = .ref p ∧ Sq K H p [u, v] ∧ (tt (((wipe σ vs).set i (some u)).set j (some v)) H fun c H3 =>
      if c = true then te (((wipe σ vs).set i (some u)).set j (some v)) H3 fun z H4 => ∃ acc, H4 D = some (.lst acc) ∧ acc.length < sizeLine ∧ Pv D (n + 1) (upd H4 D (.lst (acc ++ [z]))) else Pv D (n + 1) H3))
    (hd : ∀ D H, H1 D = none → Pv D xs.length H → Q (.ref D) H) : LcGo (Itt K a) (g2O K i j) tt te vs σ H1 Q := by
  intro D hD
  refine ⟨fun n m H => m = xs.length - n ∧ n ≤ xs.length ∧ Pv D n H, ⟨xs.length, by omega, Nat.zero_le _, h0 D hD⟩, ?_⟩
  rintro n m H ⟨rfl, hi, p⟩
  have q := hl D n H hi p
  by_cases hlt : n < xs.length
  · refine .inr ⟨⟨xs, xs[n], q, List.getElem?_eq_getElem hlt⟩, Pv D (n + 1), fun H' p' => ⟨xs.length - (n + 1), by omega, rfl, hlt, p'⟩, fun x H' yl => ?_⟩
    obtain ⟨rfl, f⟩ := yl
    obtain ⟨b, u, v, rfl, hb, k⟩ := hs D n x _ hD (f xs q) p
    exact g_pairO hb ⟨hw _ _, k⟩
  · have e : n = xs.length := by omega
    subst e
    exact .inl ⟨⟨xs, q, Nat.le_refl _⟩, hd D H hD p⟩
end
end Mf
namespace Mf
open PySem PySem.Spec PySem.Calls PyProof.Rows L2
section
variable {K : PySem.W.Frag} {σ : L2.St} {H : Hp} {g : TG} {tb : TS} {D : Ends}
theorem g_forLE {te : TE} (q : te σ H fun x H1 => ∃ a, x = .ref a ∧ (∃ xs, SqL K H1 a xs) ∧ ForGo (Itl K a) g tb D σ H1) : tFor (iList K te) g tb D σ H := q
theorem forgo_list {a : Addr} {xs : List V} (Pv : Nat → L2.St → Hp → Prop) (h0 : Pv 0 σ H) (hl : ∀ i σ H, Pv i σ H → SqL K H a xs)
    (hs : ∀ i x σ H, xs[i]? = some x → Pv i σ H → g x σ H fun σ2 H2 => tb ⟨Pv (i + 1), D.rt, D.nx, Pv (i + 1)⟩ σ2 H2) (hd : ∀ σ H, Pv xs.length σ H → D.nx σ H) : ForGo (Itl K a) g tb D σ H := by
  refine ⟨fun i m σ H => m = xs.length - i ∧ i ≤ xs.length ∧ Pv i σ H, ⟨xs.length, by omega, Nat.zero_le _, h0⟩, ?_⟩
  rintro i m σ H ⟨rfl, hi, p⟩
  have q := hl i σ H p
  by_cases hlt : i < xs.length
  · refine .inr ⟨⟨xs, xs[i], q, List.getElem?_eq_getElem hlt⟩, Pv (i + 1), fun σ' H' p' => ⟨xs.length - (i + 1), by omega, rfl, hlt, p'⟩, fun x H' yl => ?_⟩
    obtain ⟨e, f⟩ := yl
    subst e
    exact hs i x _ _ (f xs q) p
  · have e : i = xs.length := by omega
    subst e
    exact .inl ⟨⟨xs, q, Nat.le_refl _⟩, hd σ H p⟩
end
theorem cut_lo {xs : List V} {k : Nat} (h : k ≤ xs.length) : cutV xs (some (k : Int)) none = xs.drop k := by
  have e2 : HT.sIx xs.length xs.length none = xs.length := rfl
  have e : HT.sIx xs.length 0 (some (k : Int)) = k := by
    simp only [HT.sIx]
    rw [if_neg (by omega)]
    omega
  unfold cutV
  rw [e, e2]
  show (xs.drop k).take (xs.length - k) = _
  rw [List.take_of_length_le (by rw [List.length_drop]; omega)]
/-! ### shares -/
def facI (r s : Rat) : Int := (s.den : Int) * r.num - s.num * (r.den : Int)
def shT (r : Rat) (L : List Rat) (z : Int) : Int := L.foldl (fun z _ => z * (r.den : Int)) z
def shB (r : Rat) (L : List Rat) (z : Int) : Int := L.foldl (fun z s => z * facI r s) z
def share (r v : Rat) (L : List Rat) : Rat := Rat.divInt (shT r L v.num) 1 / Rat.divInt (shB r L (v.den : Int)) 1
theorem fac_ne {r s : Rat} (h : s ≠ r) : facI r s ≠ 0 := fun z => h (by
  unfold facI at z
  have e : r.num * (s.den : Int) = s.num * (r.den : Int) := by
    have := Int.sub_eq_zero.mp z
    rw [Int.mul_comm]
    exact this
  have d1 := den1 r
  have d2 := den1 s
  have h2 := (Rat.divInt_eq_divInt_iff (show (r.den : Int) ≠ 0 by omega) (show (s.den : Int) ≠ 0 by omega)).mpr e
  rw [Rat.num_divInt_den, Rat.num_divInt_den] at h2
  exact h2.symm)
theorem shB_ne {r : Rat} : ∀ {L : List Rat} {z : Int}, z ≠ 0 → (∀ s ∈ L, s ≠ r) → shB r L z ≠ 0
  | [], z, hz, _ => hz
  | s :: L, z, hz, h => shB_ne (L := L) (Int.mul_ne_zero hz (fac_ne (h s List.mem_cons_self))) fun x hx => h x (List.mem_cons_of_mem _ hx)
theorem fac_bt {r s : Rat} {A : Nat} (hr : Rb A r) (hs : Rb A s) : Bt (A + A + 1) (facI r s) := by
  unfold facI
  rw [Int.sub_eq_add_neg]
  exact ((hs.2.mul hr.1)).add (hs.1.mul hr.2).neg
theorem shT_bt {r : Rat} {A : Nat} (hr : Rb A r) : ∀ {L : List Rat} {z : Int} {m : Nat}, Bt m z → Bt (m + L.length * A) (shT r L z)
  | [], z, m, h => h.mono (by omega)
  | s :: L, z, m, h => (shT_bt hr (L := L) (h.mul hr.2)).mono (by rw [List.length_cons, Nat.succ_mul]; omega)
theorem shB_bt {r : Rat} {A : Nat} (hr : Rb A r) : ∀ {L : List Rat} {z : Int} {m : Nat}, (∀ s ∈ L, Rb A s) → Bt m z → Bt (m + L.length * (A + A + 1)) (shB r L z)
  | [], z, m, _, h => h.mono (by omega)
  | s :: L, z, m, hL, h => (shB_bt hr (L := L) (fun x hx => hL x (List.mem_cons_of_mem _ hx)) (h.mul (fac_bt hr (hL s List.mem_cons_self)))).mono (by rw [List.length_cons, Nat.succ_mul]; omega)
def oth (rs : List (Rat × Rat)) (k : Nat) : List (Rat × Rat) := rs.take k ++ rs.drop (k + 1)
theorem PP.app {H : Hp} : ∀ {vs ws : List V} {rs ss : List (Rat × Rat)}, PP H vs rs → PP H ws ss → PP H (vs ++ ws) (rs ++ ss)
  | _, _, _, _, .nil, h => h
  | _, _, _, _, .cons e e1 e2 t, h => .cons e e1 e2 (PP.app t h)
theorem PP.take {H : Hp} : ∀ {vs : List V} {rs : List (Rat × Rat)} (n : Nat), PP H vs rs → PP H (vs.take n) (rs.take n)
  | _, _, _, .nil => by rw [List.take_nil, List.take_nil]; exact .nil
  | _, _, 0, .cons .. => .nil
  | _, _, n + 1, .cons e e1 e2 t => .cons e e1 e2 (PP.take n t)
theorem PP.drop {H : Hp} : ∀ {vs : List V} {rs : List (Rat × Rat)} (n : Nat), PP H vs rs → PP H (vs.drop n) (rs.drop n)
  | _, _, _, .nil => by rw [List.drop_nil, List.drop_nil]; exact .nil
  | _, _, 0, .cons e e1 e2 t => .cons e e1 e2 t
  | _, _, n + 1, .cons _ _ _ t => PP.drop n t
def sp_share (K : PySem.W.Frag) : Sp := fun vs H Q _ => ∃ (a : Addr) (ws : List V) (rs : List (Rat × Rat)) (k : Nat) (r v : Rat) (A B : Nat), vs = [.ref a, .int (k : Int)] ∧ H a = some (.lst ws) ∧ PP H ws rs ∧ rs[k]? = some (r, v) ∧ rs.length ≤ 40 ∧ (∀ z ∈ rs, Rb A z.1) ∧ Rb B v ∧ 1 ≤ A ∧ 1 ≤ B ∧
  2 * B + 40 * (3 * A + 1) + 2 ≤ 6900 ∧ (∀ s ∈ (oth rs k).map (·.1), s ≠ r) ∧ RetT (share r v ((oth rs k).map (·.1))) H Q
end Mf
namespace Mf
open PySem PySem.Spec PyProof.Rows L2
def pvl (x : Rat) : List Rat → Rat
  | [] => 1
  | s :: L => ((s.den : Rat) * x - (s.num : Rat)) * pvl x L
theorem num_eq (r : Rat) : (r.num : Rat) = r * (r.den : Rat) := by
  have h := Rat.num_divInt_den r
  have d : (r.den : Rat) ≠ 0 := by
    intro z
    have z2 : ((r.den : Rat)).num = 0 := by rw [z]; rfl
    have : (r.den : Int) = 0 := z2
    have := den1 r
    omega
  have e : Rat.divInt r.num (r.den : Int) * (r.den : Rat) = (r.num : Rat) := by
    have e2 : Rat.divInt (r.num * (r.den : Int)) (1 * (r.den : Int)) = Rat.divInt r.num 1 := Rat.divInt_mul_right (by have := den1 r; omega)
    rw [Int.one_mul] at e2
    rw [← div_nat r.den, Rat.divInt_mul_divInt, Int.mul_one, e2]
    exact div_int _
  rw [h] at e
  exact e.symm
def fac (r : Rat) : Int × Int := (r.num, (r.den : Int))
theorem ival_fold (x : Rat) : ∀ (L : List Rat) (P : List Int), ival ((L.map fac).foldl (fun P a => tf a P) P) x = ival P x * pvl x L
  | [], P => by
    show ival P x = ival P x * 1
    rw [Rat.mul_one]
  | s :: L, P => by
    show ival ((L.map fac).foldl _ (tf (fac s) P)) x = _
    rw [ival_fold x L, ival_tf]
    show _ = ival P x * (((s.den : Rat) * x - (s.num : Rat)) * pvl x L)
    show (((s.den : Int) : Rat) * x - (s.num : Rat)) * ival P x * pvl x L = _
    rw [show (((s.den : Int)) : Rat) = (s.den : Rat) from rfl]
    grind
theorem ival_prod (x : Rat) (L : List Rat) : ival (prodF (L.map fac)) x = pvl x L := by
  unfold prodF
  rw [ival_fold]
  have : ival [1] x = 1 := by
    show (0 : Rat) + ((ic [1] 0 : Int) : Rat) * x ^ 0 = 1
    rw [Rat.pow_zero, show ic [1] 0 = 1 from rfl, show (((1 : Int)) : Rat) = 1 from rfl]
    grind
  rw [this]
  grind
theorem pv_zero {x : Rat} : ∀ {L : List Rat}, x ∈ L → pvl x L = 0
  | s :: L, h => by
    show ((s.den : Rat) * x - (s.num : Rat)) * pvl x L = 0
    rcases List.mem_cons.mp h with rfl | h
    · rw [num_eq]
      grind
    · rw [pv_zero h]
      grind
theorem shT_val (r : Rat) : ∀ (L : List Rat) (z : Int), (shT r L z : Rat) = (z : Rat) * (r.den : Rat) ^ L.length
  | [], z => by
    show (z : Rat) = (z : Rat) * (r.den : Rat) ^ 0
    rw [Rat.pow_zero, Rat.mul_one]
  | s :: L, z => by
    show (shT r L (z * (r.den : Int)) : Rat) = _
    rw [shT_val r L, List.length_cons, Rat.pow_succ, Rat.intCast_mul, show (((r.den : Int)) : Rat) = (r.den : Rat) from rfl]
    grind
theorem shB_val (r : Rat) : ∀ (L : List Rat) (z : Int), (shB r L z : Rat) = (z : Rat) * (pvl r L * (r.den : Rat) ^ L.length)
  | [], z => by
    show (z : Rat) = (z : Rat) * (1 * (r.den : Rat) ^ 0)
    rw [Rat.pow_zero, Rat.mul_one, Rat.mul_one]
  | s :: L, z => by
    show (shB r L (z * facI r s) : Rat) = (z : Rat) * ((((s.den : Rat) * r - (s.num : Rat)) * pvl r L) * (r.den : Rat) ^ (L.length + 1))
    rw [shB_val r L, Rat.pow_succ, Rat.intCast_mul]
    have e : (facI r s : Rat) = ((s.den : Rat) * r - (s.num : Rat)) * (r.den : Rat) := by
      unfold facI
      rw [Rat.intCast_sub, Rat.intCast_mul, Rat.intCast_mul, num_eq r, show (((s.den : Int)) : Rat) = (s.den : Rat) from rfl, show (((r.den : Int)) : Rat) = (r.den : Rat) from rfl]
      grind
    rw [e]
    grind
theorem den_ne (r : Rat) : (r.den : Rat) ≠ 0 := by
  intro z
  have z2 : ((r.den : Rat)).num = 0 := by rw [z]; rfl
  have : (r.den : Int) = 0 := z2
  have := den1 r
  omega
/-- at its own place a point's part takes its value -/
theorem share_at_own {r v : Rat} {L : List Rat} (h : ∀ s ∈ L, s ≠ r) : share r v L * pvl r L = v := by
  have b0 := shB_ne (r := r) (L := L) (z := (v.den : Int)) (by have := den1 v; omega) h
  unfold share
  rw [div_int, div_int]
  have b1 : ((shB r L (v.den : Int) : Int) : Rat) ≠ 0 := fun z => b0 (by
    have z2 : (((shB r L (v.den : Int) : Int) : Rat)).num = 0 := by rw [z]; rfl
    exact z2)
  have e1 := shT_val r L v.num
  have e2 := shB_val r L (v.den : Int)
  have e3 := num_eq v
  rw [show (((v.den : Int)) : Rat) = (v.den : Rat) from rfl] at e2
  rw [e1, Rat.div_def]
  have c := Rat.mul_inv_cancel _ b1
  rw [e3]
  have : v * (v.den : Rat) * (r.den : Rat) ^ L.length * (((shB r L (v.den : Int) : Int) : Rat))⁻¹ * pvl r L = v * ((((shB r L (v.den : Int) : Int) : Rat)) * (((shB r L (v.den : Int) : Int) : Rat))⁻¹) := by
    rw [e2]
    grind
  rw [this, c, Rat.mul_one]
/-! ### sums -/
def sm (f : Nat → Rat) : Nat → Rat
  | 0 => 0
  | n + 1 => sm f n + f n
theorem sm_congr {f g : Nat → Rat} : ∀ {n : Nat}, (∀ i, i < n → f i = g i) → sm f n = sm g n
  | 0, _ => rfl
  | n + 1, h => by
    show sm f n + f n = sm g n + g n
    rw [sm_congr fun i hi => h i (by omega), h n (by omega)]
theorem evs_mul (a : Rat) (c : Nat → Rat) (x : Rat) : ∀ n, evs (fun i => a * c i) x n = a * evs c x n
  | 0 => by show (0 : Rat) = a * 0; grind
  | n + 1 => by
    show evs _ x n + a * c n * x ^ n = a * (evs c x n + c n * x ^ n)
    rw [evs_mul a c x n]
    grind
theorem evs_sm (a : Nat → Rat) (c : Nat → Nat → Rat) (x : Rat) (n : Nat) : ∀ m, evs (fun i => sm (fun k => a k * c k i) m) x n = sm (fun k => a k * evs (c k) x n) m
  | 0 => by
    have : ∀ n, evs (fun i => sm (fun k => a k * c k i) 0) x n = 0 := by
      intro n
      induction n with
      | zero => rfl
      | succ n ih =>
        show evs _ x n + (0 : Rat) * x ^ n = 0
        rw [ih]
        grind
    exact this n
  | m + 1 => by
    show evs (fun i => sm (fun k => a k * c k i) m + a m * c m i) x n = sm _ m + a m * evs (c m) x n
    rw [evs_add (fun i => sm (fun k => a k * c k i) m) (fun i => a m * c m i), evs_sm a c x n m, evs_mul]
theorem sm_one {f : Nat → Rat} {n m : Nat} (hm : m < n) (h : ∀ i, i < n → i ≠ m → f i = 0) : sm f n = f m := by
  have z : ∀ j, j ≤ m → sm f j = 0 := by
    intro j
    induction j with
    | zero => intro _; rfl
    | succ j ih =>
      intro hj
      show sm f j + f j = 0
      rw [ih (by omega), h j (by omega) (by omega)]
      grind
  have z2 : ∀ j, m + 1 + j ≤ n → sm f (m + 1 + j) = f m := by
    intro j
    induction j with
    | zero =>
      intro _
      show sm f m + f m = f m
      rw [z m (Nat.le_refl _)]
      grind
    | succ j ih =>
      intro hj
      show sm f (m + 1 + j) + f (m + 1 + j) = f m
      rw [ih (by omega), h (m + 1 + j) (by omega) (by omega)]
      grind
  have := z2 (n - (m + 1)) (by omega)
  rw [show m + 1 + (n - (m + 1)) = n by omega] at this
  exact this
/-! ### through points -/
def at1 (rs : List (Rat × Rat)) (k : Nat) : Rat × Rat := rs.getD k (0, 0)
theorem at1_get {rs : List (Rat × Rat)} {k : Nat} (h : k < rs.length) : rs[k]? = some (at1 rs k) := by
  unfold at1
  rw [List.getD_eq_getElem?_getD, List.getElem?_eq_getElem h]
  rfl
def oth1 (rs : List (Rat × Rat)) (k : Nat) : List Rat := (oth rs k).map (·.1)
def shr (rs : List (Rat × Rat)) (k : Nat) : Rat := share (at1 rs k).1 (at1 rs k).2 (oth1 rs k)
def prt (rs : List (Rat × Rat)) (k : Nat) : List Int := prodF ((oth1 rs k).map fac)
def thru (rs : List (Rat × Rat)) : List Rat := (List.range rs.length).map fun i => sm (fun k => shr rs k * (ic (prt rs k) i : Rat)) rs.length
theorem len_thru (rs : List (Rat × Rat)) : (thru rs).length = rs.length := by simp [thru]
theorem len_oth {rs : List (Rat × Rat)} {k : Nat} (h : k < rs.length) : (oth1 rs k).length + 1 = rs.length := by
  unfold oth1 oth
  rw [List.length_map, List.length_append, List.length_take, List.length_drop]
  omega
theorem len_prt {rs : List (Rat × Rat)} {k : Nat} (h : k < rs.length) : (prt rs k).length = rs.length := by
  unfold prt prodF
  rw [len_prod, List.length_map]
  have := len_oth h
  show 1 + (oth1 rs k).length = _
  omega
theorem mem_oth {rs : List (Rat × Rat)} {k m : Nat} (hm : m < rs.length) (ne : m ≠ k) : (at1 rs m).1 ∈ oth1 rs k := by
  unfold oth1 oth
  refine List.mem_map.mpr ⟨at1 rs m, ?_, rfl⟩
  have e := at1_get hm
  rcases Nat.lt_or_gt_of_ne ne with h | h
  · exact List.mem_append_left _ (List.mem_of_getElem? (i := m) (by rw [List.getElem?_take_of_lt h]; exact e))
  · exact List.mem_append_right _ (List.mem_of_getElem? (i := m - (k + 1)) (by rw [List.getElem?_drop, show k + 1 + (m - (k + 1)) = m by omega]; exact e))
theorem oth_ne {rs : List (Rat × Rat)} {k : Nat} (nd : (rs.map (·.1)).Nodup) (hk : k < rs.length) : ∀ s ∈ oth1 rs k, s ≠ (at1 rs k).1 := fun s hs z => by
  have e := at1_get hk
  have sp : rs = rs.take k ++ at1 rs k :: rs.drop (k + 1) := by
    have h1 : rs.drop k = at1 rs k :: rs.drop (k + 1) := by
      rw [List.drop_eq_getElem_cons hk]
      congr 1
      rw [List.getElem?_eq_getElem hk] at e
      exact Option.some.inj e
    rw [← h1, List.take_append_drop]
  rw [sp, List.map_append, List.map_cons] at nd
  obtain ⟨_, n2, n3⟩ := List.nodup_append.mp nd
  unfold oth1 oth at hs
  rw [List.map_append] at hs
  rcases List.mem_append.mp hs with h | h
  · exact n3 s h _ List.mem_cons_self z
  · rw [List.nodup_cons] at n2
    rw [z] at h
    exact n2.1 h
theorem val_thru {rs : List (Rat × Rat)} (nd : (rs.map (·.1)).Nodup) {m : Nat} (hm : m < rs.length) : val (thru rs) (at1 rs m).1 = (at1 rs m).2 := by
  have e : val (thru rs) (at1 rs m).1 = evs (fun i => sm (fun k => shr rs k * (ic (prt rs k) i : Rat)) rs.length) (at1 rs m).1 rs.length := by
    unfold val
    rw [len_thru]
    have key : ∀ n, n ≤ rs.length → evs (co (thru rs)) (at1 rs m).1 n = evs (fun i => sm (fun k => shr rs k * (ic (prt rs k) i : Rat)) rs.length) (at1 rs m).1 n := by
      intro n
      induction n with
      | zero => intro _; rfl
      | succ n ih =>
        intro hn
        show evs _ _ n + co (thru rs) n * _ = evs _ _ n + sm _ _ * _
        rw [ih (by omega)]
        congr 2
        unfold thru
        exact co_map (by omega)
    exact key _ (Nat.le_refl _)
  rw [e, evs_sm, sm_one hm]
  · rw [show evs (fun i => (ic (prt rs m) i : Rat)) (at1 rs m).1 rs.length = ival (prt rs m) (at1 rs m).1 from ival_ge (by rw [len_prt hm]; exact Nat.le_refl _)]
    unfold prt
    rw [ival_prod]
    exact share_at_own (oth_ne nd hm)
  · intro k hk ne
    rw [show evs (fun i => (ic (prt rs k) i : Rat)) (at1 rs m).1 rs.length = ival (prt rs k) (at1 rs m).1 from ival_ge (by rw [len_prt hk]; exact Nat.le_refl _)]
    unfold prt
    rw [ival_prod, pv_zero (mem_oth hm (fun z => ne z.symm))]
    grind
end Mf
namespace Mf
open PySem PySem.Spec PySem.Calls PyProof.Rows L2
/-! sizes, and the promise of a polynomial through points -/
theorem rb_share {r v : Rat} {L : List Rat} {A B : Nat} (hr : Rb A r) (hv : Rb B v) (hL : ∀ s ∈ L, Rb A s) (h : ∀ s ∈ L, s ≠ r) (hB : 1 ≤ B) : Rb (2 * B + L.length * (3 * A + 1)) (share r v L) := by
  have b0 := shB_ne (r := r) (L := L) (z := (v.den : Int)) (by have := den1 v; omega) h
  have b1 : Bt (B + L.length * A) (shT r L v.num) := shT_bt hr hv.1
  have b2 : Bt (B + L.length * (A + A + 1)) (shB r L (v.den : Int)) := shB_bt hr hL hv.2
  have o1 : ∀ {m : Nat}, Bt (B + m) 1 := fun {m} => Bt.mono (m := 1) (by show (1 : Int).natAbs < 2 ^ 1; decide) (by omega)
  have r1 := Rb.of (d := 1) (by decide) b1 o1
  have r2 := Rb.of (d := 1) (by decide) b2 o1
  have nz : Rat.divInt (shB r L (v.den : Int)) 1 ≠ 0 := fun z => by
    have z2 : Rat.divInt (shB r L (v.den : Int)) 1 = Rat.divInt 0 1 := by rw [z, Rat.zero_divInt]
    have := (Rat.divInt_eq_divInt_iff (by decide) (by decide)).mp z2
    omega
  refine (r1.div r2 nz).mono ?_
  have e : L.length * (3 * A + 1) = L.length * A + L.length * (A + A + 1) := by rw [← Nat.mul_add]; congr 1; omega
  omega
theorem bt_tf {a : Int × Int} {P : List Int} {A m : Nat} (h1 : Bt A a.1) (h2 : Bt A a.2) (h : ∀ i, Bt m (ic P i)) (i : Nat) : Bt (A + m + 1) (ic (tf a P) i) := by
  rw [ic_tf, Int.sub_eq_add_neg]
  refine Bt.add (h2.mul ?_) (h1.mul (h i)).neg
  split
  · exact Nat.two_pow_pos m
  · exact h _
theorem bt_fold {A : Nat} : ∀ {L : List Rat} {P : List Int} {m : Nat}, (∀ s ∈ L, Rb A s) → (∀ i, Bt m (ic P i)) → ∀ i, Bt (m + L.length * (A + 1)) (ic ((L.map fac).foldl (fun P a => tf a P) P) i)
  | [], P, m, _, h, i => (h i).mono (by omega)
  | s :: L, P, m, hL, h, i => by
    have b := hL s List.mem_cons_self
    have z := bt_fold (L := L) (P := tf (fac s) P) (m := A + m + 1) (fun x hx => hL x (List.mem_cons_of_mem _ hx)) (fun i => bt_tf (a := fac s) b.1 b.2 h i) i
    refine Bt.mono (show Bt _ (ic ((L.map fac).foldl (fun P a => tf a P) (tf (fac s) P)) i) from z) ?_
    rw [List.length_cons, Nat.succ_mul]
    omega
theorem bt_one (i : Nat) : Bt 1 (ic [1] i) := by
  cases i with
  | zero => show (1 : Int).natAbs < 2 ^ 1; decide
  | succ i =>
    rw [ic_ge (by simp)]
    exact Nat.two_pow_pos 1
theorem bt_prt {rs : List (Rat × Rat)} {A : Nat} {k : Nat} (h : ∀ s ∈ oth1 rs k, Rb A s) (i : Nat) : Bt (1 + (oth1 rs k).length * (A + 1)) (ic (prt rs k) i) := bt_fold h bt_one i
def sums (us : Nat → Int) (c : Nat → Int) : Nat → Int
  | 0 => 0
  | n + 1 => sums us c n + us n * c n
theorem sums_list (us c : Nat → Int) : ∀ n, ((List.range n).map fun j => us j * c j).sum = sums us c n
  | 0 => rfl
  | n + 1 => by
    rw [List.range_succ, List.map_append, List.sum_append, sums_list us c n]
    show _ + (us n * c n + 0) = _
    rw [Int.add_zero]
    rfl
theorem sums_div {D : Int} (hD : D ≠ 0) (us c : Nat → Int) : ∀ n, Rat.divInt (sums us c n) D = sm (fun k => Rat.divInt (us k) D * (c k : Rat)) n
  | 0 => by
    show Rat.divInt 0 D = 0
    rw [Rat.zero_divInt]
  | n + 1 => by
    show Rat.divInt (sums us c n + us n * c n) D = sm _ n + Rat.divInt (us n) D * (c n : Rat)
    rw [← sums_div hD us c n, ← div_int (c n), Rat.divInt_mul_divInt, Int.mul_one, Rat.divInt_add_divInt _ _ hD hD, ← Int.add_mul, Rat.divInt_mul_right hD]
theorem sums_bt {us c : Nat → Int} {m p : Nat} : ∀ n, (∀ i, i < n → Bt m (us i) ∧ Bt p (c i)) → Bt (m + p + n) (sums us c n)
  | 0, _ => Nat.two_pow_pos _
  | n + 1, h => by
    have a := sums_bt n fun i hi => h i (by omega)
    have b := (h n (by omega)).1.mul (h n (by omega)).2
    exact (Bt.add a (b.mono (by omega))).mono (by omega)
def sp_thru (K : PySem.W.Frag) : Sp := fun vs H Q _ => ∃ q a xs ds n A B M, vs = [.ref a] ∧ a ≠ q ∧ Sq K H a xs ∧ DqAll q K H xs ds ∧ (∀ d ∈ ds, PtOk n d) ∧ n ≤ 7000 ∧ ds.length ≤ 40 ∧ (ds.map fun d => (xy d).1).Nodup ∧
  (∀ d ∈ ds, Rb A (xy d).1) ∧ (∀ d ∈ ds, Rb B (xy d).2) ∧ 1 ≤ A ∧ A ≤ 800 ∧ 1 ≤ B ∧ 2 * B + 40 * (3 * A + 1) + 2 ≤ 4900 ∧ M ≤ 4900 ∧ Bt M (lcmL ((List.range ds.length).map (shr (ds.map xy))) : Int) ∧
  ∀ p H' ws r, Same H H' → H p = none → H' p = some (.tup ws) → TL H' ws r → Tr r → r.length ≤ ds.length → (∀ d ∈ ds, val r (xy d).1 = (xy d).2) → RbL (2 * B + ds.length * (3 * A + 1) + M + 1 + ds.length * (A + 1) + ds.length) r → Q (.ref p) H'
end Mf
/-! lambdas, with a default or without, handed to a def, where the guards are known -/
namespace Mf
open PySem PySem.Spec PySem.Calls PyProof.Rows L2
section
variable {prog : Program} {w : World} {A : Around} {E : Value → Shared → Prop} {s : Shared} {Q : Value → Shared → Prop} {params : Arguments} {body : Expr} {scope : Scope} {pos : Pos} {env : Env}
abbrev lamTail (params : Arguments) (body : Expr) (scope : Scope) (pos : Pos) (env : Env) (dV : Value) : Sem Value := makeTail "<lambda>" (env.qual ++ "<lambda>") params (.expr body) scope env dV .none none pos pos.line
theorem lamE0 (hdef : defaultsOf params env = ([], [])) (h : wpAny (model prog w) A (lamTail params body scope pos env .none) Q E s) : wpAny (model prog w) A (eval (.Lambda params body scope pos) env) Q E s := by
  apply PySem.W.kla_eval hdef
  rw [makeFunction_eq]
  simp only [List.zip_nil_right, List.filterMap_nil, List.isEmpty_nil, if_true, pure_bind]
  exact h
theorem lamE1 {i : Int} {j : Nat} {p : Pos} (hd : params.defaults = [.Constant (.int i) j p]) (hk : params.kw_defaults = [])
    (h : ∀ t tk, wpAny (model prog w) A (lamTail params body scope pos env (.ref s.heap.objs.size)) Q E { s with heap := s.heap.push (PySem.W.kdv_tup [.int i t]), toks := tk }) : wpAny (model prog w) A (eval (.Lambda params body scope pos) env) Q E s := by
  apply PySem.W.kdv_lam (by rw [hd]; rfl) hk
  rw [hd]
  apply PySem.W.kdv_all1
  apply wpAny_Constant_int
  apply PySem.W.kdv_all0
  rw [makeFunction_eq]
  simp only [List.zip_nil_right, List.filterMap_nil, List.isEmpty_nil, if_true, pure_bind, List.isEmpty_cons, Bool.false_eq_true, if_false]
  exact wpAny_bind (wpAny_newTextTuple (h _ _))
end
/-- an object that stands, untracked -/
def KpA (X : Cx) (H : Hp) (s : Shared) (a : Addr) (o : Obj) : Prop := s.heap.get? a = some o ∧ H a = none ∧ a ∉ frs X.stack
abbrev lamO (q : Str) (params : Arguments) (body : Expr) (scope : Scope) (cl : List (Str × Addr)) (dV doc pm : Value) (c' : Addr) (ctv : Value) : Obj := PySem.W.kdv_obj "<lambda>" q params (.expr body) scope cl dV doc pm c' ctv
abbrev lamF (q : Str) (params : Arguments) (body : Expr) (scope : Scope) (cl : List (Str × Addr)) (dV doc pm cv ctv : Value) : FuncData := PySem.W.kdv_fn "<lambda>" q params (.expr body) scope cl dV doc pm cv ctv
section
variable {X : Cx} {pins : List (Addr × Obj)} {σ : L2.St} {H : Hp} {s : Shared}
theorem far_fr (I : Inv X pins σ H s) {f : Addr} (hf : s.heap.objs.size ≤ f) : f ∉ frs X.stack := fun z => by
  cases List.mem_cons.mp (I.stkSub _ z) with
  | inl e =>
    have h := I.lt
    rw [← e] at h
    exact Nat.not_lt.mpr hf h
  | inr e => exact I.nofs hf e
/-- the lambda's tail: its code object is new, or found in the table of its maker -/
theorem lam_tail {T : List (Addr × Str)} {c P : Addr} {params : Arguments} {body : Expr} {scope : Scope} {pos : Pos} {dV : Value} {E Q : Value → Shared → Prop} (I : Inv X pins σ H s) (TB : LamX.TabB X.base X.mg c P) (hcode : X.env.code = .ref c)
    (hm : (P, X.env.qual ++ "<lambda>") ∈ T) (hu : ∀ p ∈ T, p.1 = P → p.2 = X.env.qual ++ "<lambda>") (hT : LamX.Tabs T H) (hfree : ∀ y ∈ scope.names, y.2 = .free → ∃ c, X.env.cells.lookup y.1 = some c)
    (h : ∀ (f c' : Addr) (doc pm ctv : Value) (H1 : Hp) (s1 : Shared), Inv X pins σ H1 s1 → LamX.ExtN H H1 → LamX.Tabs T H1 → KpA X H1 s1 f (lamO (X.env.qual ++ "<lambda>") params body scope (cloFrom X.env.cells scope.names []) dV doc pm c' ctv) →
      H1 c' = some (LamX.CodeO c' (X.env.qual ++ "<lambda>")) → (∀ b o, KpA X H s b o → KpA X H1 s1 b o) → Q (.ref f) s1) :
    wpAny (model X.prog X.w) X.A (lamTail params body scope pos X.env dV) Q E s := by
  obtain ⟨ps, hP, trip, among⟩ := hT _ hm
  have bP : s.heap.BuiltinsAt X.mg P := TB.bm.keeps I.bk
  have oP : s.heap.get? P = some { cls := .none, data := .fields ps } := I.hok P _ hP
  have offP : ∀ {b : Addr}, H b = none → b ≠ P := fun e z => by
    rw [z, hP] at e
    cases e
  cases hc : codeAmong pos ps.toList with
  | some cv =>
    obtain ⟨c1, e, hco⟩ := among pos cv hc
    subst e
    refine PySem.W.kdv_makeTailHit (mg := X.mg) (P := P) (c := c) (ps := ps) (closure_ok hfree) I.ok.glob (I.mod.glob.keeps I.bk) hcode (TB.code.keeps I.bk) oP trip hc bP fun ctv doc h' tk hx hsz => ?_
    have kept : ∀ b o, s.heap.get? b = some o → (h'.push (lamO (X.env.qual ++ "<lambda>") params body scope (cloFrom X.env.cells scope.names []) dV doc ((X.mg "__name__").getD .none) c1 ctv)).get? b = some o := fun b o e => Heap.get?_push_of_some _ (hx b o e)
    exact h h'.objs.size c1 doc _ ctv H _ (I.kept (t' := tk) kept) (LamX.ExtN.refl H) hT ⟨Heap.get?_push_size _ rfl, I.hok.fresh hsz, far_fr I hsz⟩ hco fun b o k => ⟨kept b o k.1, k.2⟩
  | none =>
    refine PySem.W.kdv_makeTail (mg := X.mg) (P := P) (c := c) (ps := ps) (closure_ok hfree) I.ok.glob (I.mod.glob.keeps I.bk) hcode (TB.code.keeps I.bk) oP trip hc TB.gP bP fun c1 ctv doc h' tk hx hge hlt hrec htb => ?_
    obtain ⟨c2, oc, vs, tq, e2, hoc, hd, hv⟩ := hrec
    cases e2
    have hsz : s.heap.objs.size ≤ h'.objs.size := Nat.le_trans hge (Nat.le_of_lt hlt)
    have nC : H c1 = none := I.hok.fresh hge
    have J := LamX.inv_table (t' := tk) (more := #[rawInt pos.line, rawInt pos.col, .ref c1]) (h' := h'.push (lamO (X.env.qual ++ "<lambda>") params body scope (cloFrom X.env.cells scope.names []) dV doc ((X.mg "__name__").getD .none) c1 ctv)) I hP
      (fun b o nb e => Heap.get?_push_of_some _ (hx b o nb e)) (Heap.get?_push_of_some _ htb) hge ⟨oc, vs, tq, Heap.get?_push_of_some _ hoc, hd, hv⟩
    have grow : LamX.ExtN H (upd (upd H P (.tbl (ps ++ #[rawInt pos.line, rawInt pos.col, .ref c1]))) c1 (LamX.CodeO c1 (X.env.qual ++ "<lambda>"))) := by
      intro b o e n
      have nb : b ≠ P := fun z => n ps (Option.some.inj (e.symm.trans (z ▸ hP)))
      rw [upd_ne (ne_of_none e nC), upd_ne nb]
      exact e
    have un : ∀ {b : Addr}, b ≠ c1 → H b = none → upd (upd H P (.tbl (ps ++ #[rawInt pos.line, rawInt pos.col, .ref c1]))) c1 (LamX.CodeO c1 (X.env.qual ++ "<lambda>")) b = none := fun n1 e => by
      rw [upd_ne n1, upd_ne (offP e)]
      exact e
    refine h h'.objs.size c1 doc _ ctv _ _ J grow (fun p hp => ?_) ⟨Heap.get?_push_size _ rfl, un (Nat.ne_of_gt hlt) (I.hok.fresh hsz), far_fr I hsz⟩ upd_same fun b o k => ⟨Heap.get?_push_of_some _ (hx b o (offP k.2.1) k.1), un (Nat.ne_of_lt (Nat.lt_of_lt_of_le (Heap.lt_size k.1) hge)) k.2.1, k.2.2⟩
    by_cases hb : p.1 = P
    · have eL : (ps ++ #[rawInt pos.line, rawInt pos.col, .ref c1]).toList = ps.toList ++ [rawInt pos.line, rawInt pos.col, .ref c1] := by simp
      rw [hu p hp hb, hb]
      refine ⟨_, by rw [upd_ne (ne_of_none hP nC), upd_same], ?_, fun pos2 cv hcv => ?_⟩
      · rw [eL]
        exact PySem.TriplesOk_snoc _ _ _ _ trip
      · rw [eL] at hcv
        cases LamX.among_app _ trip hcv with
        | inr z => exact ⟨c1, z, upd_same⟩
        | inl z =>
          obtain ⟨c0, e1, e2⟩ := among pos2 cv z
          exact ⟨c0, e1, grow _ _ e2 LamX.codeO_ne⟩
    · obtain ⟨ps2, a1, a2, a3⟩ := hT p hp
      refine ⟨ps2, ?_, a2, fun pos2 cv hcv => ?_⟩
      · rw [upd_ne (ne_of_none a1 nC), upd_ne hb]
        exact a1
      · obtain ⟨c0, e1, e2⟩ := a3 pos2 cv hcv
        exact ⟨c0, e1, grow _ _ e2 LamX.codeO_ne⟩
/-- what the maker writes for a default: none, or one int -/
def LamDf (d : Option Int) (params : Arguments) (env : Env) : Prop := match d with
  | none => defaultsOf params env = ([], [])
  | some i => params.kw_defaults = [] ∧ ∃ j p, params.defaults = [.Constant (.int i) j p]
def DfN (d : Option Int) (X : Cx) (H : Hp) (s : Shared) (dV : Value) : Prop := match d with
  | none => dV = .none
  | some i => ∃ T t, dV = .ref T ∧ KpA X H s T (PySem.W.kdv_tup [.int i t])
/-- .. and what stands of it at a call -/
def DfH (d : Option Int) (h : Heap) (dV : Value) : Prop := match d with
  | none => dV = .none
  | some i => ∃ T t, dV = .ref T ∧ h.get? T = some (PySem.W.kdv_tup [.int i t])
theorem lam_new {T : List (Addr × Str)} {c P : Addr} {d : Option Int} {params : Arguments} {body : Expr} {scope : Scope} {pos : Pos} {E Q : Value → Shared → Prop} (I : Inv X pins σ H s) (TB : LamX.TabB X.base X.mg c P) (hcode : X.env.code = .ref c)
    (hm : (P, X.env.qual ++ "<lambda>") ∈ T) (hu : ∀ p ∈ T, p.1 = P → p.2 = X.env.qual ++ "<lambda>") (hT : LamX.Tabs T H) (hdf : LamDf d params X.env) (hfree : ∀ y ∈ scope.names, y.2 = .free → ∃ c, X.env.cells.lookup y.1 = some c)
    (h : ∀ (f c' : Addr) (dV doc pm ctv : Value) (H1 : Hp) (s1 : Shared), Inv X pins σ H1 s1 → LamX.ExtN H H1 → LamX.Tabs T H1 → KpA X H1 s1 f (lamO (X.env.qual ++ "<lambda>") params body scope (cloFrom X.env.cells scope.names []) dV doc pm c' ctv) →
      H1 c' = some (LamX.CodeO c' (X.env.qual ++ "<lambda>")) → DfN d X H1 s1 dV → Q (.ref f) s1) :
    wpAny (model X.prog X.w) X.A (eval (.Lambda params body scope pos) X.env) Q E s := by
  cases d with
  | none =>
    exact lamE0 hdf (lam_tail I TB hcode hm hu hT hfree fun f c' doc pm ctv H1 s1 I1 eN T1 kf hc _ => h f c' .none doc pm ctv H1 s1 I1 eN T1 kf hc rfl)
  | some i =>
    obtain ⟨hk, j, p, hd⟩ := hdf
    refine lamE1 hd hk fun t tk => ?_
    have I2 : Inv X pins σ H { s with heap := s.heap.push (PySem.W.kdv_tup [.int i t]), toks := tk } := I.kept fun b o e => Heap.get?_push_of_some _ e
    have kT : KpA X H { s with heap := s.heap.push (PySem.W.kdv_tup [.int i t]), toks := tk } s.heap.objs.size (PySem.W.kdv_tup [.int i t]) := ⟨Heap.get?_push_size _ rfl, I.hok.fresh (Nat.le_refl _), far_fr I (Nat.le_refl _)⟩
    exact lam_tail I2 TB hcode hm hu hT hfree fun f c' doc pm ctv H1 s1 I1 eN T1 kf hc kk => h f c' _ doc pm ctv H1 s1 I1 eN T1 kf hc ⟨_, t, rfl, kk _ _ kT⟩
end
/-! ### the lambda's names: captured ones, globals, and of its own such as no other def has -/
structure LamN (N : List Str) (sc scope : Scope) : Prop where
  kind : scope.kind = .function
  co : scope.isCoroutine = false
  gen : scope.isGenerator = false
  cell : ∀ y ∈ scope.names, y.2 ≠ .cell
  own : ∀ y ∈ scope.names, y.2 = .local → y.1 ∉ N
  free : ∀ y ∈ scope.names, y.2 = .free → sc.names.lookup y.1 = some .cell ∨ sc.names.lookup y.1 = some .free
def lamNB (N : List Str) (sc scope : Scope) : Bool :=
  (decide (scope.kind = .function) && !scope.isCoroutine && !scope.isGenerator) && scope.names.all fun y =>
    !decide (y.2 = .cell) && (!decide (y.2 = .local) || decide (y.1 ∉ N)) && (!decide (y.2 = .free) || decide (sc.names.lookup y.1 = some .cell) || decide (sc.names.lookup y.1 = some .free))
theorem lamN_by {N : List Str} {sc scope : Scope} (h : lamNB N sc scope = true) : LamN N sc scope := by
  unfold lamNB at h
  simp only [Bool.and_eq_true, Bool.or_eq_true, Bool.not_eq_true', decide_eq_true_eq, decide_eq_false_iff_not, List.all_eq_true] at h
  obtain ⟨⟨⟨k1, k2⟩, k3⟩, k4⟩ := h
  refine ⟨k1, k2, k3, fun y hy => (k4 y hy).1.1, fun y hy e => ?_, fun y hy e => ?_⟩
  · exact (k4 y hy).1.2.elim (fun z => absurd e z) id
  · rcases (k4 y hy).2 with (z | z) | z
    · exact absurd e z
    · exact Or.inl z
    · exact Or.inr z
theorem LamN.has {X : Cx} {scope : Scope} (L : LamN X.N X.env.scope scope) (ok : X.Ok) : ∀ y ∈ scope.names, y.2 = .free → ∃ c, X.env.cells.lookup y.1 = some c := by
  intro y hy e
  cases L.free y hy e with
  | inl k => exact ok.has _ (Or.inl k)
  | inr k => exact ok.has _ (Or.inr k)
end Mf
namespace Mf
open PySem PySem.Spec PySem.Calls PyProof.Rows L2
section
variable {X : Cx} {pins : List (Addr × Obj)} {σ : L2.St} {H HZ : Hp} {s s1 : Shared}
theorem lam_in {A : Around} {outer : List Env} {E : XK} {scope : Scope} {f c' : Addr} {h₁ : Heap} {tk : Nat} {bs : List (Str × Value)} (I : Inv X pins σ H s) (L : LamN X.N X.env.scope scope) (e0 : Env0 X.prog X.w X.K X.mg X.base A outer s1 HZ) (hd : A.handled = none)
    (un : Un (frs X.stack) [] H HZ s.heap s1.heap) (hns : h₁.Ns s1.heap.objs.size fun y => bs.reverse.lookup y) (kp : ∀ b o, s1.heap.get? b = some o → h₁.get? b = some o) :
    Inv (LamX.lamCx X A outer s1 HZ E scope f c') [] σ HZ { s1 with heap := h₁, toks := tk } := by
  have hfree := L.has I.ok
  have cells : ∀ {y c}, (cloFrom X.env.cells scope.names []).lookup y = some c → X.env.cells.lookup y = some c := by
    intro y c e
    cases cloFrom_mem (PySem.mem_of_lookup e) with
    | inl hm => cases hm
    | inr hm =>
      obtain ⟨h1, h2⟩ := hm
      obtain ⟨c1, hc⟩ := hfree _ h1 rfl
      have hc : X.env.cells.lookup y = some c1 := hc
      rw [h2, hc] <;> rfl
  have there : ∀ {y}, scope.names.lookup y = some .free → ∃ c, (cloFrom X.env.cells scope.names []).lookup y = some c := by
    intro y hl
    have hy : (y, NameKind.free) ∈ scope.names := PySem.mem_of_lookup hl
    exact mem_lookup (cloFrom_has (acc := []) (cells := X.env.cells) hy)
  have cellK : ∀ {c : Addr} {v : Option Value}, H c = none → s.heap.IsCell c v → h₁.IsCell c v := by
    intro c v n ic
    obtain ⟨o, ho, hd⟩ := ic
    obtain ⟨sl, q⟩ := un.any ho n List.not_mem_nil
    exact ⟨_, kp _ _ q, hd⟩
  have noX : ∀ b : Addr, b ∉ (LamX.lamCx X A outer s1 HZ E scope f c').ex := fun b z => List.not_mem_nil z
  have okZ : (LamX.lamCx X A outer s1 HZ E scope f c').Ok := by
    refine ⟨e0.mod, L.kind, rfl, rfl, Nat.le_refl _, ?_, ?_, ?_, fun _ => hd, Around.frames_deeper e0.frames, Or.inr ⟨rfl, rfl⟩, fun b z => (noX b z).elim, e0.bs, e0.bsz, fun b _ _ => noX b, fun b z => (noX b z).elim, e0.funs, e0.frf⟩
    · exact fun y z c e1 e2 => I.ok.inj y z c (cells e1) (cells e2)
    · intro y hy
      have hy : scope.names.lookup y = some .cell ∨ scope.names.lookup y = some .free := hy
      cases hy with
      | inl hy => exact absurd rfl (L.cell _ (PySem.mem_of_lookup hy))
      | inr hy => exact there hy
    · intro y c z _
      have z : false = true := z
      cases z
  refine ⟨okZ, rfl, e0.bare, Un.kept kp, ⟨_, hns, ?_⟩, ?_, e0.hok.fresh (Nat.le_refl _), ?_, ?_, e0.hok.kept kp, I.len⟩
  · intro i y v e1 e2 e3
    have e1 : X.N[i]? = some y := e1
    have e3 : Vis scope y := e3
    rcases e3 with k | k | k
    · exact absurd (List.mem_of_getElem? e1) (L.own _ (PySem.mem_of_lookup k) rfl)
    · exact absurd rfl (L.cell _ (PySem.mem_of_lookup k))
    · obtain ⟨m, hn, hl⟩ := I.loc
      have hvis : Vis X.env.scope y := by
        cases L.free _ (PySem.mem_of_lookup k) rfl with
        | inl k => exact Or.inr (Or.inl k)
        | inr k => exact Or.inr (Or.inr k)
      obtain ⟨w', r, q⟩ := hl i y v e1 e2 hvis
      obtain ⟨c2, h2⟩ := there k
      refine ⟨w', r, Or.inr ⟨Or.inr k, c2, h2, ?_⟩⟩
      have c1 := cells h2
      rcases q with ⟨k', _⟩ | ⟨_, c3, e', z⟩
      · have k' : X.env.scope.names.lookup y = some .local := k'
        cases L.free _ (PySem.mem_of_lookup k) rfl with
        | inl k2 =>
          have k2 : X.env.scope.names.lookup y = some .cell := k2
          rw [k2] at k'
          cases k'
        | inr k2 =>
          have k2 : X.env.scope.names.lookup y = some .free := k2
          rw [k2] at k'
          cases k'
      · rw [c1] at e'
        cases e'
        exact cellK (I.freeC y _ c1) z
  · intro y c e
    obtain ⟨w', z⟩ := I.cell y c (cells e)
    exact ⟨w', cellK (I.freeC y c (cells e)) z⟩
  · intro y c e
    obtain ⟨v, o, ho, hd⟩ := I.cell y c (cells e)
    exact un.free c o ho (I.freeC y c (cells e)) List.not_mem_nil
  · intro q hq
    exact absurd hq List.not_mem_nil
/-- how a call of the lambda without arguments binds its names -/
def LamB (d : Option Int) (q : Str) (params : Arguments) (body : Expr) (scope : Scope) : Prop := ∀ (s : Shared) (cl : List (Str × Addr)) (dV doc pm cv ctv : Value), DfH d s.heap dV →
  ∃ bs : List (Str × Value), BindsTo s (lamF q params body scope cl dV doc pm cv ctv) ⟨[], []⟩ bs ∧ ∀ y ∈ bs, scope.names.lookup y.1 = some .local
/-- a(), in the def that got the lambda; Z is the context of that def -/
theorem pe_ask {CXg : CXT} {Eg : XK} {Ng : List Str} {qg : Str} {sg : Scope} {g f c' : Addr} {cdg dV doc pm ctv : Value} {d : Option Int} {params : Arguments} {body : Expr} {scope : Scope} {k i : Nat} {a : Str} {pn : List (Addr × Obj)} {xe : Value → Shared → Prop} {W : WX} {tb : XK → TE} {p1 p2 : Pos}
    (I : Inv X pins σ H s) (L : LamN X.N X.env.scope scope) (kf : KpA X H s f (lamO (X.env.qual ++ "<lambda>") params body scope (cloFrom X.env.cells scope.names []) dV doc pm c' ctv)) (kd : DfN d X H s dV) (hb : LamB d (X.env.qual ++ "<lambda>") params body scope)
    (tk : Takes ((cxOf CXg X.prog X.w X.K X.mg X.base Ng qg sg g cdg X.A X.stack s H Eg).tr pn xe) W) (hG : X.A.guards = some []) (hr : Room (k + 1) (X.A.deeper (envOfC qg sg s.heap.objs.size g cdg)))
    (hbody : ∀ (A : Around) (outer : List Env) (s : Shared) (H : Hp) (E : XK), (A.deeper (LamX.lamEnv X scope s.heap.objs.size f c')).guards = some [] → Room k (A.deeper (LamX.lamEnv X scope s.heap.objs.size f c')) → PE (LamX.lamCx X A outer s H E scope f c') body (tb E))
    (hN : Ng[i]? = some a) (hv : Vis sg a) (hda : (a == ("__debug__" : Str)) = false := by decide) (hca : (a == ("__classdict__" : Str)) = false := by decide) :
    PE ((cxOf CXg X.prog X.w X.K X.mg X.base Ng qg sg g cdg X.A X.stack s H Eg).tr pn xe) (.Call (.Name a p1) [] [] p2)
      (fun σZ HZ Q => σZ[i]? = some (some (.ref f)) ∧ HZ c' = some (LamX.CodeO c' (X.env.qual ++ "<lambda>")) ∧ ∃ (E : XK) (Q' : VK), (∀ cls d H', E cls d H' → W cls d σZ H') ∧ (∀ v H', Q' v H' → Q v H') ∧ tb E σ HZ Q') := by
  constructor
  intro pinsZ sZ σZ HZ Q IZ h
  obtain ⟨hs, hc, E, Q', hW, hQ, ht⟩ := h
  have hvar := (pe_var (pos := p1) (i := i) hN hv hda hca).run pinsZ sZ σZ HZ (fun v H1 => v = .ref f ∧ H1 = HZ) IZ ⟨.ref f, hs, rfl, rfl⟩
  refine wpAny_Call_Name_kw (thn hvar fun u s1 ⟨v, H1, I1, r1, q1⟩ => ?_)
  obtain ⟨rfl, rfl⟩ := q1
  obtain rfl : u = Value.ref f := r1
  have still : ∀ {b : Addr} {o : Obj}, KpA X H s b o → s1.heap.get? b = some o := fun k => I1.base.keep _ _ k.1 k.2.1 k.2.2 List.not_mem_nil
  have of1 := still kf
  refine PySem.W.callWith_F0 ⟨_, _, _, _, of1⟩ ?_
  have un : Un (frs X.stack) [] H H1 s.heap s1.heap := I1.base
  obtain ⟨⟨oc, vs, tq, hoc, hdc, hvc⟩, _, _⟩ := I1.hok c' _ hc
  have kd1 : DfH d s1.heap dV := by
    cases d with
    | none => exact kd
    | some n =>
      obtain ⟨T, t, e, k⟩ := kd
      exact ⟨T, t, e, still k⟩
  obtain ⟨bs, hbs, hloc⟩ := hb s1 (cloFrom X.env.cells scope.names []) dV doc pm (.ref c') ctv kd1
  have rc : codeAny (model X.prog X.w) (X.A.deeper (envOfC qg sg s.heap.objs.size g cdg)) (.call (.ref f) ⟨[], []⟩) (CR (L2.CX X.prog X.w) (envOfC qg sg s.heap.objs.size g cdg :: X.stack) X.prog X.w H1 s1 Q' E) s1 := by
    refine PySem.W.kla_callFunE hr.depth of1 rfl L.co L.gen rfl ⟨c', oc, vs, tq, rfl, hoc, hdc, hvc⟩ (hbs _ _ _ _ ?_)
    refine wpAny_newFunctionEnv L.cell hloc (fun h₁ hns hsb => ⟨I1.nolimit.fresh _ hsb, ?_⟩) L.kind
    have kp : ∀ b o, s1.heap.get? b = some o → h₁.get? b = some o := fun b o e => hsb.extBut b o (Nat.ne_of_lt (Heap.lt_size e)) (Heap.get?_push_of_some _ e)
    have J := lam_in (A := X.A.deeper (envOfC qg sg s.heap.objs.size g cdg)) (outer := envOfC qg sg s.heap.objs.size g cdg :: X.stack) (E := E) (f := f) (c' := c') (tk := s1.toks + bs.length) I L I1.env0 hr.hd un hns kp
    have run := (hbody (X.A.deeper (envOfC qg sg s.heap.objs.size g cdg)) (envOfC qg sg s.heap.objs.size g cdg :: X.stack) s1 H1 E hG (hr.deeper _)).run [] _ _ H1 Q' J ht
    show codeAny _ _ (.expr body (LamX.lamEnv X scope s1.heap.objs.size f c')) _ _
    refine PySem.W.kla_codeExpr (wpAny_mono run ?_ fun e s' hq => hq)
    intro v s' hq
    obtain ⟨w', H', J', rv, q⟩ := hq
    exact ⟨w', H', J'.os, J'.bare, J'.base, J'.hok, rv, q⟩
  have hx : PassesAt (L2.CX X.prog X.w) ((cxOf CXg X.prog X.w X.K X.mg X.base Ng qg sg g cdg X.A X.stack s H Eg).tr pn xe) σZ E := fun _ _ _ e s' I c => tk e s' (XE.of_call I (fun cls d H' h => hW cls d H' h) c)
  refine wpAny_call (codeAny_mono rc ?_)
  intro r s' hq
  cases r with
  | error e => exact hx pinsZ H1 s1 e s' I1 hq
  | ok fl => cases fl with
    | ret u =>
      have z := I1.after hq
      obtain ⟨v, H2, J, rv, q⟩ := z
      exact ⟨v, H2, J, rv, hQ _ _ q⟩
    | next => exact hq.elim
    | brk => exact hq.elim
    | cont => exact hq.elim
/-- the def that calls what it got; TT: what it makes of the lambda's reading -/
def GivesG (X : Cx) (Ng : List Str) (x : Str) (sg : Scope) (g : Addr) (cdg : Value) (bg : List Stmt) (a q : Str) (j : Nat) (TT : (XK → Hp → VK → Prop) → Hp → VK → Prop) : Prop :=
  ∀ (f c' : Addr) (s : Shared) (H : Hp) (Q : VK) (tl : XK → Hp → VK → Prop), (X.A.deeper (envOfC x sg s.heap.objs.size g cdg)).guards = some [] → Room j (X.A.deeper (envOfC x sg s.heap.objs.size g cdg)) →
    (∀ (W : WX) (pn : List (Addr × Obj)) (xe : Value → Shared → Prop) (p1 p2 : Pos), Takes ((cxOf CX0 X.prog X.w X.K X.mg X.base Ng x sg g cdg X.A X.stack s H E0).tr pn xe) W →
      PE ((cxOf CX0 X.prog X.w X.K X.mg X.base Ng x sg g cdg X.A X.stack s H E0).tr pn xe) (.Call (.Name a p1) [] [] p2) (fun σZ HZ Q => σZ[0]? = some (some (.ref f)) ∧ HZ c' = some (LamX.CodeO c' q) ∧ ∃ (E : XK) (Q' : VK), (∀ cls d H', E cls d H' → W cls d σZ H') ∧ (∀ v H', Q' v H' → Q v H') ∧ tl E HZ Q')) →
    H c' = some (LamX.CodeO c' q) → TT tl H Q →
    ∃ t, PSs (cxOf CX0 X.prog X.w X.K X.mg X.base Ng x sg g cdg X.A X.stack s H E0).nox bg t ∧ t { nx := fun _ H' => Q .non H', rt := Q } (L2.start Ng [.ref f]) H
def tLamG (T : List (Addr × Str)) (TT : (XK → Hp → VK → Prop) → Hp → VK → Prop) (t : XK → TE) : TE := fun σ H Q => LamX.Tabs T H ∧ ∀ H1, LamX.ExtN H H1 → LamX.Tabs T H1 → TT (fun E H' Q' => t E σ H' Q') H1 Q
end
section
variable {X : Cx}
/-- x(lambda: body), x(lambda a=0: body) -/
theorem pe_lamG {T : List (Addr × Str)} {TT : (XK → Hp → VK → Prop) → Hp → VK → Prop} {x a : Str} {st : Stmt} {c P : Addr} {k : Nat} {Ng : List Str} {d : Option Int} {params : Arguments} {body : Expr} {scope : Scope} {t : XK → TE} {p lpos pos : Pos}
    (D : De (cnOf X) x st) (hp : Pl x st [a]) (Sg : FnScope Ng [a] (defScope st)) (hNg : Ng[0]? = some a) (hva : Vis (defScope st) a) (hA : X.A.guards = some []) (hr : Room (k + 2) X.A) (hg : Gl X x)
    (hG : ∀ (g : Addr) (cdg : Value), GivesG X Ng x (defScope st) g cdg (defBody st) a (X.env.qual ++ "<lambda>") (k + 1) TT)
    (TB : LamX.TabB X.base X.mg c P) (hcode : X.env.code = .ref c) (hmT : (P, X.env.qual ++ "<lambda>") ∈ T) (hu : ∀ p ∈ T, p.1 = P → p.2 = X.env.qual ++ "<lambda>") (L : LamN X.N X.env.scope scope) (hdf : LamDf d params X.env) (hb : LamB d (X.env.qual ++ "<lambda>") params body scope)
    (hbody : ∀ (A : Around) (outer : List Env) (s : Shared) (H : Hp) (E : XK) (f c' : Addr), (A.deeper (LamX.lamEnv X scope s.heap.objs.size f c')).guards = some [] → Room k (A.deeper (LamX.lamEnv X scope s.heap.objs.size f c')) → PE (LamX.lamCx X A outer s H E scope f c') body (t E))
    (hdb : (x == ("__debug__" : Str)) = false := by decide) (hd : (a == ("__debug__" : Str)) = false := by decide) (hcd : (a == ("__classdict__" : Str)) = false := by decide) :
    PE X (.Call (.Name x p) [.Lambda params body scope lpos] [] pos) (tLamG T TT t) := by
  obtain ⟨g, fd, hm, F⟩ := D.ex
  have hbd := F.binds hp
  have hkp := F.kp
  obtain ⟨oc, od, kV, doc, pm, an, cdv, ct, osl, rfl, lk, hcdv⟩ := F.ex
  constructor
  intro pins s σ H Q I h
  obtain ⟨hT, h⟩ := h
  refine wpAny_Call_Name_kw (ld_glob I hg hm ?_ hdb)
  refine PySem.W.callWith_K (h₀ := X.base) I.ok.mod.kin hkp ?_ (by rfl) (by rfl)
  show wpAny _ _ (spliced ((false, eval (.Lambda params body scope lpos) X.env) :: backTo pos (starEach [] X.env))) _ _ s
  refine Calls.spliced_cons (lam_new I TB hcode hmT hu hT hdf (L.has I.ok) fun f c' dV doc' pm' ctv H1 s' I1 eN T1 kf hco kd => ?_)
  refine Calls.spliced_nil ⟨I1.kIn, ?_⟩
  have bind1 := hbd s' [.ref f] I1.kIn rfl
  have rc : codeAny (model X.prog X.w) X.A (.call (.ref g) ⟨[.ref f], []⟩) (CR CX0 X.stack X.prog X.w H1 s' Q E0) s' := by
    refine LamX.run_ofS (N := Ng) (ps := [a]) (us := [.ref f]) (vs := [.ref f]) lk hcdv Sg hr I1.env0 bind1 (.cons rfl .nil) rfl fun hr' => ?_
    obtain ⟨t', ht', hq'⟩ := hG g cdv f c' s' H1 Q (fun E H' Q' => t E σ H' Q') hA hr' (fun W pn xe p1 p2 tk => pe_ask (i := 0) I1 L kf kd hb tk hA hr' (fun A outer s H E hA2 hr2 => hbody A outer s H E f c' hA2 hr2) hNg hva hd hcd) hco (h H1 eN T1)
    exact ⟨t', ht'.nox, hq'⟩
  refine wpAny_call (codeAny_mono rc ?_)
  intro r s2 hq
  cases r with
  | error e => exact False.elim hq
  | ok fl => cases fl with
    | ret u => exact I1.after hq
    | next => exact hq.elim
    | brk => exact hq.elim
    | cont => exact hq.elim
end
end Mf
/-! the law's call, where tables of code objects stand -/
namespace Mf
open PySem PySem.Spec PySem.Calls PyProof.Rows L2
theorem law_callGT {P : Program} {w : World} {K : PySem.W.Frag} {mg mb : Str → Option Value} {k : Nat} {fa a : Addr} {cs : List (Addr × Addr)} {fd : FuncData} {x : Str} {sp : Sp} {s₁ : Shared} {vs : List Value} {ns : List Int}
    (KX : K.In s₁.heap) (hns : s₁.heap.Ns mainGlobals mg) (hb : s₁.heap.Ns builtinsNs mb) (hbb : ∀ x : Str, x ≠ "__name__" → mb x = bootBuiltins x)
    (hlim : s₁.heap.NoLimit) (hg : s₁.gens = #[])
    (tabs : ∀ p ∈ cs, s₁.heap.get? p.2 = some (PySem.W.tabObj #[])) (ntab : ∀ p ∈ cs, K.lookup p.2 = none) (heads : ∀ p ∈ cs, PySem.W.CodeHd s₁.heap p.1 p.2)
    (hbm : ∃ (bm : Addr) (ob : Obj), mg "__builtins__" = some (.ref bm) ∧ bm ≠ builtinsNs ∧ s₁.heap.get? bm = some ob ∧ ob.cls = .type "module" ∧ ob.dict = some builtinsNs ∧ ob.data = .plain)
    (ha : s₁.heap.get? a = some { cls := .type "list", data := .seq vs.toArray }) (hi : IntsAre vs ns) (hl : ns.length ≤ sizeLine) (hr : Room k callerA)
    (F : ∀ base : Heap, K.In base → base.Ns mainGlobals mg → (∀ p ∈ cs, LamX.TabB base mg p.1 p.2) → FnG P w K mg base CX0 k fa fd [x] sp)
    (hbind : ∀ (s : Shared) (u : Value), BindsTo s fd ⟨[u], []⟩ [(x, u)])
    (hsp : ∀ H : Hp, (∀ p ∈ cs, H p.2 = some (.tbl #[])) → SqL K H a (ns.map V.int) → sp [.ref a] H (fun v _ => v = .bl true) fun _ _ _ => False) :
    codeAny (model P w) callerA (.call (.ref fa) ⟨[.ref a], []⟩)
      (fun r s' => r = .ok (.ret (.bool true)) ∧ OldK s₁.heap s'.heap ∧ s'.os = s₁.os ∧ AllBare s'.gens) s₁ := by
  have rv := vals_ints hi
  have lenV := hi.length
  have tab_at : ∀ b : Addr, b ∈ cs.map (·.2) → s₁.heap.get? b = some (PySem.W.tabObj #[]) := by
    intro b hb
    obtain ⟨p, hp, e⟩ := List.mem_map.mp hb
    rw [← e]
    exact tabs p hp
  have a_no : a ∉ cs.map (·.2) := by
    intro z
    have q := (tab_at a z).symm.trans ha
    cases q
  have in_cs : ∀ p ∈ cs, p.2 ∈ cs.map (·.2) := fun p hp => List.mem_map.mpr ⟨p, hp, rfl⟩
  have main : ∀ H : Hp, (∀ p ∈ cs, H p.2 = some (.tbl #[])) → (∀ b, H b = none ∨ b ∈ cs.map (·.2) ∨ ∃ o xs, H b = some (.frz o (.lst xs))) → SqL K H a (ns.map V.int) → HOk P w H s₁.heap → (∀ b, H b ≠ none → b = a ∨ b ∈ cs.map (·.2)) → (H a ≠ none → K.lookup a = none) →
      codeAny (model P w) callerA (.call (.ref fa) ⟨[.ref a], []⟩)
        (fun r s' => r = .ok (.ret (.bool true)) ∧ OldK s₁.heap s'.heap ∧ s'.os = s₁.os ∧ AllBare s'.gens) s₁ := by
    intro H hH hO hS hok hA hK
    have unt : ∀ {b : Addr} {o : Obj}, s₁.heap.get? b = some o → (∀ vs n, o.data ≠ .seq vs n) → o.data ≠ .fields #[] → H b = none := by
      intro b o e h1 h2
      cases q : H b with
      | none => rfl
      | some u =>
        cases hA b (by rw [q]; exact Option.some_ne_none _) with
        | inl z =>
          rw [z, ha] at e
          cases e
          exact (h1 _ _ rfl).elim
        | inr z =>
          rw [tab_at b z] at e
          cases e
          exact (h2 rfl).elim
    have dict_un : ∀ {b : Addr} {o : Obj} {es : Array DictEntry} {ep : Nat}, s₁.heap.get? b = some o → o.data = .dict es ep → H b = none := by
      intro b o es ep e d
      apply unt e
      · intro vs n z
        rw [d] at z
        cases z
      · intro z
        rw [d] at z
        cases z
    have nsK : ∀ {b : Addr} {m : Str → Option Value}, s₁.heap.Ns b m → (hidT s₁.heap H).Ns b m := by
      intro b m h
      obtain ⟨o, es, ep, e, d, r⟩ := h
      exact ⟨o, es, ep, hidT_get e (dict_un e d), d, r⟩
    have hKb : K.In (hidT s₁.heap H) := by
      intro b o e
      refine hidT_get (KX b o e) ?_
      cases q : H b with
      | none => rfl
      | some u =>
        have nb : H b ≠ none := by
          rw [q]
          exact Option.some_ne_none _
        cases hA b nb with
        | inl z =>
          subst z
          rw [hK nb] at e
          cases e
        | inr z =>
          obtain ⟨p, hp, ep⟩ := List.mem_map.mp z
          rw [← ep, ntab p hp] at e
          cases e
    have hM : Mod K mg (hidT s₁.heap H) := by
      refine ⟨hKb, nsK hns, ⟨mb, nsK hb, hbb⟩, ?_⟩
      obtain ⟨mc, h1, h2⟩ := hlim
      exact ⟨mc, nsK h1, h2⟩
    have TB : ∀ p ∈ cs, LamX.TabB (hidT s₁.heap H) mg p.1 p.2 := by
      intro p hp
      have tp := tabs p hp
      constructor
      · obtain ⟨o, us, file, tf, flags, tg, inF, text, tt, e1, r1, r2, r3, r4⟩ := heads p hp
        refine ⟨o, us, file, tf, flags, tg, inF, text, tt, hidT_get e1 (unt e1 ?_ ?_), r1, r2, r3, r4⟩
        · intro vs n z
          rw [r2] at z
          cases z
        · intro z
          rw [r2] at z
          cases z
          simp at r3
      · obtain ⟨bm, ob, b1, b2, b3, b4, b5, b6⟩ := hbm
        refine ⟨bm, ob, b1, b2, ?_, ?_, hidT_get b3 (unt b3 ?_ ?_), b4, b5, b6⟩
        · intro q
          obtain ⟨o, es, ep, e, hd, _⟩ := hns
          rw [q, e] at b3
          cases b3
          rw [hd] at b6
          cases b6
        · intro q
          rw [q, tp] at b3
          cases b3
          cases b6
        · intro vs n z
          rw [b6] at z
          cases z
        · intro z
          rw [b6] at z
          cases z
      · intro z
        obtain ⟨o, es, ep, e, hd, _⟩ := hns
        rw [z, tp] at e
        cases e
        cases hd
    have e0 : Env0 P w K mg (hidT s₁.heap H) callerA [] s₁ H :=
      { frames := rfl, mod := hM, bs := fun b o e => of_hidT e, bsz := Nat.le_of_eq (hidT_size _ _), funs := trivial,
        frf := fun b hb => absurd hb List.not_mem_nil, hok := hok, bare := .of_eq hg }
    have run := (F _ hKb (nsK hns) TB).go callerA rfl [] s₁ H ⟨[.ref a], []⟩ [.ref a] [.ref a] (fun v _ => v = .bl true) (fun _ _ _ => False) hr e0 (hbind s₁ (.ref a)) (.cons rfl .nil) (hsp H hH hS)
    refine codeAny_mono run ?_
    intro r s' h
    cases r with
    | error e => exact False.elim h
    | ok fl => cases fl with
      | next => exact False.elim h
      | brk => exact False.elim h
      | cont => exact False.elim h
      | ret u =>
        obtain ⟨v, H', os, bare, un, hok', r', q⟩ := h
        obtain rfl : v = .bl true := q
        obtain rfl : u = Value.bool true := r'
        have stay : ∀ b o, b ∉ cs.map (·.2) → s₁.heap.get? b = some o → s'.heap.get? b = some o := by
          intro b o nb e
          cases q : H b with
          | none => exact un.keep b o e q List.not_mem_nil List.not_mem_nil
          | some u =>
            rcases hO b with z | z | ⟨ob, xs, z⟩
            · rw [q] at z
              cases z
            · exact absurd z nb
            · obtain ⟨e1, _⟩ := hok b _ z
              obtain ⟨e2, _⟩ := hok' b _ (un.frzs b ob _ z)
              rw [e] at e1
              cases e1
              exact e2
        have grown : ∀ p ∈ cs, ∃ more : Array Value, s'.heap.get? p.2 = some { cls := .none, data := .fields more } := by
          intro p hp
          obtain ⟨more, z⟩ := un.tbls p.2 #[] (hH p hp)
          exact ⟨_, hok' p.2 _ z⟩
        refine ⟨rfl, ⟨?_, ?_⟩, os, bare⟩
        · intro b o e
          by_cases hb : b ∈ cs.map (·.2)
          · obtain ⟨p, hp, ep⟩ := List.mem_map.mp hb
            obtain ⟨more, hm⟩ := grown p hp
            rw [← ep] at e ⊢
            rw [tabs p hp] at e
            cases e
            have tb := ((heads p hp).tab (tabs p hp)).isCodeTable
            exact Or.inr (Or.inl ⟨tb, rfl, #[], more, rfl, by rw [Array.empty_append]; exact hm⟩)
          · exact Or.inl (stay b o hb e)
        · intro b o e
          by_cases hb : b ∈ cs.map (·.2)
          · obtain ⟨p, hp, ep⟩ := List.mem_map.mp hb
            obtain ⟨more, hm⟩ := grown p hp
            rw [← ep]
            exact ⟨_, hm⟩
          · exact ⟨o, stay b o hb e⟩
  cases hk : K.lookup a with
  | some o =>
    have e := KX a o hk
    rw [ha] at e
    cases e
    refine main (fun b => if b ∈ cs.map (·.2) then some (.tbl #[]) else none) (fun p hp => if_pos (in_cs p hp)) ?_ (Or.inr ⟨_, vs.toArray, _, hk, rfl, rfl, rfl, ?_, ?_⟩) ?_ ?_ (fun z => absurd (if_neg a_no) z)
    · intro b
      by_cases hb : b ∈ cs.map (·.2)
      · exact Or.inr (Or.inl hb)
      · exact Or.inl (if_neg hb)
    · rw [List.size_toArray, lenV]
      exact hl
    · simpa using rv
    · intro b u z
      by_cases hb : b ∈ cs.map (·.2)
      · have z' := (if_pos hb).symm.trans z
        cases z'
        exact tab_at b hb
      · have z' := (if_neg hb).symm.trans z
        cases z'
    · intro b z
      by_cases hb : b ∈ cs.map (·.2)
      · exact Or.inr hb
      · exact absurd (if_neg hb) z
  | none =>
    refine main (fun b => if b = a then some (.frz { cls := .type "list", data := .seq vs.toArray } (.lst (ns.map V.int))) else if b ∈ cs.map (·.2) then some (.tbl #[]) else none) ?_ ?_ (Or.inl (Or.inr ⟨_, if_pos rfl⟩)) ?_ ?_ (fun _ => hk)
    · intro p hp
      have ne : ¬ p.2 = a := fun z => a_no (z ▸ in_cs p hp)
      exact (if_neg ne).trans (if_pos (in_cs p hp))
    · intro b
      by_cases hb : b = a
      · exact Or.inr (Or.inr ⟨_, _, if_pos hb⟩)
      · by_cases h2 : b ∈ cs.map (·.2)
        · exact Or.inr (Or.inl h2)
        · exact Or.inl ((if_neg hb).trans (if_neg h2))
    · intro b u z
      by_cases hb : b = a
      · have z' := (if_pos hb).symm.trans z
        cases z'
        subst hb
        refine ⟨ha, ?_, vs, _, rv, ha⟩
        rw [List.length_map]
        exact hl
      · have z1 := (if_neg hb).symm.trans z
        by_cases h2 : b ∈ cs.map (·.2)
        · have z' := (if_pos h2).symm.trans z1
          cases z'
          exact tab_at b h2
        · have z' := (if_neg h2).symm.trans z1
          cases z'
    · intro b z
      by_cases hb : b = a
      · exact Or.inl hb
      · by_cases h2 : b ∈ cs.map (·.2)
        · exact Or.inr h2
        · exact absurd ((if_neg hb).trans (if_neg h2)) z
/-- the law row from the promise of its def, with tables -/
theorem walkGT {l : PySem.W.OpenLaw} {n k : Nat} {q : Program} {loose : List Str} {XP : (Str → Option Value) → Heap → Prop} {YP : World → Heap → Prop} {d : DefRec} {K : Params → PySem.W.Frag} {x : Str}
    (hn : l.most = some n) (hn2 : n ≤ sizeLine) (hdf : d.params.defaults = []) (hr : Room k callerA)
    (hY : ∀ (w : World) (h : Heap), YP w h → (K w.params).In h)
    (F : ∀ (w : World) (mg : Str → Option Value) (fa : Addr) (h : Heap), (K w.params).In h → h.Ns mainGlobals mg → mg d.name = some (.ref fa) →
      (∀ (y : Str) (e : DefRec) (c P : Addr), (recsOf q).find? (fun e => e.name == y) = some e → PySem.W.tabIn (K w.params) y = some (c, P) → PySem.W.CodeHd h c P ∧ h.get? P = some (PySem.W.tabObj #[])) →
      ∃ (fd : FuncData) (cs : List (Addr × Addr)) (sp : Sp), (∀ p ∈ cs, h.get? p.2 = some (PySem.W.tabObj #[])) ∧ (∀ p ∈ cs, (K w.params).lookup p.2 = none) ∧ (∀ p ∈ cs, PySem.W.CodeHd h p.1 p.2) ∧ (∀ (s : Shared) (u : Value), BindsTo s fd ⟨[u], []⟩ [(x, u)]) ∧
        (∀ (H : Hp) (a : Addr) (ns : List Int), ns.length ≤ n → (∀ p ∈ cs, H p.2 = some (.tbl #[])) → SqL (K w.params) H a (ns.map V.int) → sp [.ref a] H (fun v _ => v = .bl true) fun _ _ _ => False) ∧
        ∀ base : Heap, (K w.params).In base → base.Ns mainGlobals mg → (∀ p ∈ cs, LamX.TabB base mg p.1 p.2) → FnG l.prog w (K w.params) mg base CX0 k fa fd [x] sp) :
    PySem.W.WalkO q loose XP YP l.row.toRowW d [] (fun f vs => PySem.call f vs) := by
  refine Att.attach_call hn hdf ?_
  intro w s₀ s₁ mg mb fa o pm cd doc a vs ns G Y ho hd hcd hmg hobj hints hlen hg
  have KX := hY w _ Y
  obtain ⟨fd, cs, sp, h1, h2, h3, hb, hsp, hF⟩ := F w mg fa _ KX G.T.g hmg fun y e c P hf ht => PySem.W.tab_of G.T KX hf ht
  exact law_callGT KX G.T.g G.T.b G.T.builtins G.T.nolimit hg h1 h2 h3 G.T.bmain hobj hints (Nat.le_trans hlen hn2) hr hF hb fun H hH hS => hsp H a ns hlen hH hS
end Mf
namespace Mf
open PySem PySem.Spec PySem.Calls PyProof.Rows L2
/-! contracts put together -/
section
variable {c : Cn} {x : Str} {st : Stmt} {ps : List Str} {j k m : Nat} {sp sq : Sp}
theorem ClX.or (h1 : Cl c j x st ps sp) (h2 : ClX c k x st ps sq) (l1 : j ≤ m) (l2 : k ≤ m) : ClX c m x st ps (fun vs H Q E => sp vs H Q E ∨ sq vs H Q E) := by
  obtain ⟨f, fd, F, hm, W⟩ := h1.ex
  obtain ⟨g, gd, G, hg, V⟩ := h2.ex
  have e : f = g := by
    have e := hm.symm.trans hg
    cases e
    rfl
  subst e
  obtain ⟨oc, od, kV, doc, pm, an, cdv, ct, osl, rfl, lk, hcd⟩ := W.ex
  obtain ⟨oc', od', kV', doc', pm', an', cdv', ct', osl', rfl, lk', hcd'⟩ := V.ex
  rw [lk] at lk'
  cases lk'
  refine ⟨f, _, ⟨fun vs H Q E h => h.elim (F.size vs H Q E) (G.size vs H Q E), ?_⟩, hm, W⟩
  intro A hA outer s H args us vs Q E hr e0 hb r h
  cases h with
  | inr h => exact G.go A hA outer s H args us vs Q E (hr.mono l2) e0 hb r h
  | inl h =>
    refine codeAny_mono (F.go A hA outer s H args us vs Q E (hr.mono l1) e0 hb r h) ?_
    intro r s' q
    cases r with
    | error e => exact False.elim q
    | ok fl => cases fl with
      | ret u => exact q
      | next => exact False.elim q
      | brk => exact False.elim q
      | cont => exact False.elim q
end
/-! a def whose code object is known, with its table -/
structure TC (c : Cn) (x : Str) (cc PP : Addr) : Prop where
  code : ∀ (f : Addr) (fd : FuncData) (oc : Value) (od : Option Addr) (osl : Array (Option Value)), c.mg x = some (.ref f) → c.K.lookup f = some ⟨oc, od, .func fd, osl⟩ → fd.code = .ref cc
  tab : LamX.TabB c.base c.mg cc PP
section
variable {P : Program} {w : World} {K : PySem.W.Frag} {mg : Str → Option Value} {base : Heap}
theorem okGC {x qual : Str} {st : Stmt} {f cc : Addr} {fd : FuncData} {N ps : List Str} {k : Nat} {sp : Sp} (F : Fun K x qual st f fd) (hcc : fd.code = .ref cc) (S : FnScope N ps (defScope st)) (len : ∀ vs H Q E, sp vs H Q E → vs.length = ps.length)
    (hbody : ∀ (A : Around) (outer : List Env) (s : Shared) (H : Hp) (vs : List V) (Q : VK) (E : XK), (A.deeper (envOfC qual (defScope st) s.heap.objs.size f (.ref cc))).guards = some [] →
      Room k (A.deeper (envOfC qual (defScope st) s.heap.objs.size f (.ref cc))) → sp vs H Q E →
      ∃ t, PSs (cxOf CX0 P w K mg base N qual (defScope st) f (.ref cc) A outer s H E).nox (defBody st) t ∧ t { nx := fun _ H' => Q .non H', rt := Q } (start N vs) H) :
    FnG P w K mg base CX0 (k + 1) f fd ps sp := by
  obtain ⟨oc, od, kV, doc, pm, an, cdv, ct, osl, rfl, lk, hcd⟩ := F.ex
  obtain rfl : cdv = .ref cc := hcc
  refine ⟨len, ?_⟩
  intro A hA outer s H args us vs Q E hr e0 hb r hsp
  have KX : K.In s.heap := e0.mod.kin.keeps fun b o e => (e0.bs b o e).1
  have lim : s.heap.NoLimit := e0.mod.nolimit.keeps fun b o e => (e0.bs b o e).1
  have hl := len _ _ _ _ hsp
  have kinds : ∀ y ∈ ps.zip us, (defScope st).names.lookup y.1 = some .local ∨
      ((defScope st).names.lookup y.1 = some .cell ∧ ((cellsFrom (s.heap.objs.size + 1) (defScope st).names []).lookup y.1).isSome = true) := by
    intro y hy
    obtain ⟨n, v⟩ := y
    cases S.par n (List.of_mem_zip hy).1 with
    | inl q => exact Or.inl q
    | inr q => exact Or.inr ⟨q, PySem.W.cellsFrom_some _ _ _ (.inl q)⟩
  refine codeAny_call_function hr.depth (KX _ _ lk) rfl S.co S.gen rfl (PySem.W.codeRec_of KX hcd) (hb _ _ _ _ ?_)
  refine wpAny_newFunctionEnv_cells S.kind kinds ?_
  intro env he s1 x
  subst he
  refine ⟨lim.keeps x.toInCall.keep, codeAny_func ?_⟩
  have hAg : (A.deeper (envOfC qual (defScope st) s.heap.objs.size f (.ref cc))).guards = some [] := hA
  obtain ⟨t, ht, hq⟩ := hbody A outer s H vs Q E hAg (hr.deeper _) hsp
  have I := inv_start (CX := CX0) (mg := mg) (base := base) (N := N) (qual := qual) (f := f) (cd := .ref cc) (E := E) S hr.hd e0 hl r x
  refine wpAny_mono (ht.nox.run [] s1 (start N vs) H _ I hq) ?_ (fun e s' hs => hs)
  intro fl s' hs
  cases fl with
  | ret u =>
    obtain ⟨v, σ', H', J, rv, q⟩ := hs
    exact ⟨v, H', J.os, J.bare, J.base, J.hok, rv, q⟩
  | next =>
    obtain ⟨σ', H', J, q⟩ := hs
    exact ⟨V.non, H', J.os, J.bare, J.base, J.hok, (rfl : Value.none = Value.none), q⟩
  | brk => obtain ⟨_, _, _, q⟩ := hs; exact False.elim q
  | cont => obtain ⟨_, _, _, q⟩ := hs; exact False.elim q
end
theorem De.clC {c : Cn} {x : Str} {st : Stmt} {cc PP : Addr} {N ps : List Str} {k : Nat} {sp : Sp} (D : De c x st) (tc : TC c x cc PP) (S : FnScope N ps (defScope st))
    (len : ∀ vs H Q E, sp vs H Q E → vs.length = ps.length)
    (hbody : ∀ (f : Addr) (A : Around) (outer : List Env) (s : Shared) (H : Hp) (vs : List V) (Q : VK) (E : XK),
      (A.deeper (envOfC x (defScope st) s.heap.objs.size f (.ref cc))).guards = some [] →
      Room k (A.deeper (envOfC x (defScope st) s.heap.objs.size f (.ref cc))) → sp vs H Q E →
      ∃ t, PSs (cxOf CX0 c.P c.w c.K c.mg c.base N x (defScope st) f (.ref cc) A outer s H E).nox (defBody st) t ∧
        t { nx := fun _ H' => Q .non H', rt := Q } (start N vs) H) : Cl c (k + 1) x st ps sp := by
  obtain ⟨f, fd, hm, F⟩ := D.ex
  obtain ⟨oc, od, kV, doc, pm, an, cdv, ct, osl, e, lk, hcd⟩ := F.ex
  exact ⟨f, fd, okGC F (tc.code f fd oc od osl hm lk) S len (hbody f), hm, F⟩
/-! own errors with one field -/
def Er1 (C : Addr) (p : Str) (H : Hp) (E : XK) : Prop := ∀ dd H', H dd = none → Same H H' → H' dd = some (.xd [("part", .str p)]) → E (.ref C) (some dd) H'
theorem Er1.go {C : Addr} {p : Str} {H H1 : Hp} {E : XK} (h : Er1 C p H E) (s : Same H H1) : Er1 C p H1 E := fun dd H' n s' e => h dd H' (s.free n) (s.trans s') e
theorem g_clX {sp : Sp} {E : L2.St → XK} {t : TA} {σ : L2.St} {H : Hp} {Q : VK} (q : t σ H fun vs H1 => sp vs H1 Q (E σ)) : tClX sp E t σ H Q := q
section
variable {K : PySem.W.Frag}
def sp_readB (C : Addr) (K : PySem.W.Frag) : Sp := fun vs H Q E => ∃ q v d p, vs = [v, .str p] ∧ Dq q K H v d ∧ isFrD d = false ∧ Er1 C p H E
def sp_oneB (C : Addr) (p : Str) (K : PySem.W.Frag) : Sp := fun vs H Q E => ∃ q v d, vs = [v] ∧ Dq q K H v d ∧ isFrD d = false ∧ Er1 C p H E
def sp_binB (C : Addr) (K : PySem.W.Frag) : Sp := fun vs H Q E => ∃ q v1 v2, vs = [v1, v2] ∧ ((∃ d, Dq q K H v1 d ∧ isFrD d = false ∧ Er1 C "one" H E) ∨ (∃ r n d, Fr q K H v1 r n ∧ n ≤ 7000 ∧ Dq q K H v2 d ∧ isFrD d = false ∧ Er1 C "other" H E))
def sp_divB (C M : Addr) (K : PySem.W.Frag) : Sp := fun vs H Q E => sp_binB C K vs H Q E ∨ ∃ q v1 v2 r n m, vs = [v1, v2] ∧ Fr q K H v1 r n ∧ n ≤ 7000 ∧ Fr q K H v2 0 m ∧ m ≤ 7000 ∧ Er1 M "other" H E
def sp_mixB (C : Addr) (K : PySem.W.Frag) : Sp := fun vs H Q E => ∃ q v1 v2 v3, vs = [v1, v2, v3] ∧ ((∃ d, Dq q K H v1 d ∧ isFrD d = false ∧ Er1 C "one" H E) ∨ (∃ r n d, Fr q K H v1 r n ∧ n ≤ 7000 ∧ Dq q K H v2 d ∧ isFrD d = false ∧ Er1 C "other" H E) ∨
  (∃ r n r2 n2 d, Fr q K H v1 r n ∧ n ≤ 7000 ∧ Fr q K H v2 r2 n2 ∧ n2 ≤ 7000 ∧ Dq q K H v3 d ∧ isFrD d = false ∧ Er1 C "share" H E))
/-- a list, all of whose items are fractions -/
def itemsD : PyData → List PyData
  | .list ds | .tuple ds => ds
  | _ => []
def isSmD (d : PyData) : Bool := isSeqD d && ((itemsD d).map isFrD).all id
def sp_sumB (C : Addr) (K : PySem.W.Frag) : Sp := fun vs H Q E => ∃ q v d, vs = [v] ∧ Dq q K H v d ∧ isSmD d = false ∧ (itemsD d).length ≤ 900 ∧ Er1 C "some" H E
end
/-! isinstance of a kept error, or of None -/
def rIsNK (K : PySem.W.Frag) : List V → Hp → VK → Prop := fun xs H Q => rIsi K xs H Q ∨ rIsK K xs H Q
theorem call_isNK {X : Cx} : CallR X (.builtin "isinstance") (rIsNK X.K) := by
  intro pins s σ H xs us Q I r h
  cases h with
  | inl h => exact call_isi pins s σ H xs us Q I r h
  | inr h => exact call_isK pins s σ H xs us Q I r h
end Mf
namespace Mf
open PySem PySem.Spec PySem.Calls PyProof.Rows L2
/-! what stays while lambdas are made: all but tables, and but the drawn list -/
def Kx (q : Addr) (H H' : Hp) : Prop := ∀ b o, H b = some o → b ≠ q → (∀ ps, o ≠ .tbl ps) → H' b = some o
section
variable {q : Addr} {K : PySem.W.Frag} {H H1 H' : Hp}
theorem Kx.trans (a : Kx q H H1) (b : Kx q H1 H') : Kx q H H' := fun c o e n t => b c o (a c o e n t) n t
theorem Same.kx (s : Same H H') : Kx q H H' := fun b o e _ _ => s b o e
theorem SameX.kx (s : SameX q H H') : Kx q H H' := fun b o e n _ => s b o n e
theorem extN_kx (s : LamX.ExtN H H') : Kx q H H' := fun b o e _ t => s b o e t
theorem Kx.rd {a : Addr} {u : HO} (s : Kx q H H') (n : a ≠ q) (t : ∀ ps, u ≠ .tbl ps) (h : Rd H a u) : Rd H' a u := by
  rcases h with h | ⟨o, h⟩
  · exact .inl (s _ _ h n t)
  · exact .inr ⟨o, s _ _ h n (fun ps z => nomatch z)⟩
theorem Kx.seq {a : Addr} {xs : List V} (s : Kx q H H') (n : a ≠ q) (h : SqL K H a xs) : SqL K H' a xs := by
  rcases h with h | h
  · exact .inl (s.rd n (fun ps z => nomatch z) h)
  · exact .inr h
theorem Kx.tup {a : Addr} {xs : List V} (s : Kx q H H') (n : a ≠ q) (h : SqT K H a xs) : SqT K H' a xs := by
  rcases h with h | h
  · exact .inl (s.rd n (fun ps z => nomatch z) h)
  · exact .inr h
mutual
theorem Dq.kx (s : Kx q H H') : ∀ {d : PyData} {v : V}, Dq q K H v d → Dq q K H' v d
  | _, _, .non => .non
  | _, _, .bl b => .bl b
  | _, _, .int i => .int i
  | _, _, .str x h => .str x h
  | _, _, .lst n h ha => .lst n (s.seq n h) (DqAll.kx s ha)
  | _, _, .tup n h ha => .tup n (s.tup n h) (DqAll.kx s ha)
  | _, _, .dct n h => .dct n (s _ _ h n (fun ps z => nomatch z))
theorem DqAll.kx (s : Kx q H H') : ∀ {ds : List PyData} {vs : List V}, DqAll q K H vs ds → DqAll q K H' vs ds
  | _, _, .nil => .nil
  | _, _, .cons h t => .cons (Dq.kx s h) (DqAll.kx s t)
end
theorem Fr.kx {v : V} {r : Rat} {n : Nat} (s : Kx q H H') (h : Fr q K H v r n) : Fr q K H' v r n := by
  obtain ⟨d, h1, h2⟩ := h
  exact ⟨d, h1.kx s, h2⟩
theorem Qy.ext {t : Int} (s : LamX.ExtN H H') (h : Qy K q t H) : Qy K q t H' := by
  obtain ⟨c, ns, r, e1, e2, z⟩ := h
  exact ⟨c, ns, r, s _ _ e1 (fun ps z => nomatch z), s _ _ e2 (fun ps z => nomatch z), z⟩
theorem tabs_x {T : List (Addr × Str)} {t : Int} (hq : Qy K q t H) (s : SameX q H H') (h : LamX.Tabs T H) : LamX.Tabs T H' := by
  obtain ⟨c0, ns, r, e1, e2, z⟩ := hq
  intro p hp
  obtain ⟨ps, h1, h2, h3⟩ := h p hp
  have nq : ∀ {b : Addr} {o : HO}, H b = some o → (∀ xs, o ≠ .lst xs) → b ≠ q := fun e n z => by
    rw [z, e1] at e
    cases e
    exact n _ rfl
  refine ⟨ps, s _ _ (nq h1 (fun xs z => nomatch z)) h1, h2, fun pos cv hc => ?_⟩
  obtain ⟨c, k1, k2⟩ := h3 pos cv hc
  exact ⟨c, k1, s _ _ (nq k2 (fun xs z => nomatch z)) k2⟩
end
/-! what the law makes of a lambda: the word and the part of its error, or None -/
def EsH (CN CM : Addr) (Q : VK) : XK := fun cls dd H' => ∃ (d : Addr) (p : Str) (C : Addr) (w : Str), dd = some d ∧ cls = .ref C ∧ H' d = some (.xd [("part", .str p)]) ∧ ((C = CN ∧ w = "number") ∨ (C = CM ∧ w = "misfit")) ∧
  ∀ pp H2, Same H' H2 → H' pp = none → H2 pp = some (.tup [.str w, .str p]) → Q (.ref pp) H2
def QsH (Q : VK) : VK := fun _ H' => ∀ H2, Same H' H2 → Q .non H2
def TTh (CN CM : Addr) : (XK → Hp → VK → Prop) → Hp → VK → Prop := fun tl H Q => tl (EsH CN CM Q) H (QsH Q)
section
variable {q : Addr} {K : PySem.W.Frag} {H H1 H' : Hp} {σ : L2.St} {Q : VK} {CN CM C : Addr}
theorem Er1.w {p w : Str} (hC : (C = CN ∧ w = "number") ∨ (C = CM ∧ w = "misfit")) (k : ∀ pp H2, Same H H2 → H pp = none → H2 pp = some (.tup [.str w, .str p]) → Q (.ref pp) H2) : Er1 C p H (EsH CN CM Q) :=
  fun dd H' n s e => ⟨dd, p, C, w, rfl, rfl, e, hC, fun pp H2 s2 n2 e2 => k pp H2 (s.trans s2) (s.free n2) e2⟩
theorem g_lam {T : List (Addr × Str)} {TT : (XK → Hp → VK → Prop) → Hp → VK → Prop} {t : XK → TE} (hT : LamX.Tabs T H) (k : ∀ H1, LamX.ExtN H H1 → LamX.Tabs T H1 → TT (fun E H' Q' => t E σ H' Q') H1 Q) : tLamG T TT t σ H Q := ⟨hT, k⟩
theorem g_tth {tl : XK → Hp → VK → Prop} (k : tl (EsH CN CM Q) H (QsH Q)) : TTh CN CM tl H Q := k
theorem g_mkR {fs : List Str} {t : TA} {Q : XK} (k : t σ H fun vs H1 => vs.length = fs.length ∧ ∀ d H2, H1 d = none → Same H1 H2 → H2 d = some (.xd (fs.zip vs).reverse) → Q (.ref C) (some d) H2) : tMkR C fs t σ H Q := k
theorem kit_nt {bm : List Value} (h : ClsAt K C bm) : PySem.W.kitOne K (.type "NoneType") (.ref C) = some false := by
  obtain ⟨cd, h1, _⟩ := h.clsIn
  unfold PySem.W.kitOne
  have ne : ¬ ((Value.type "NoneType" == Value.ref C) = true) := fun z => by
    have z' := beq_iff_eq.mp z
    cases z'
  rw [if_neg ne]
  show (if ((PySem.W.clsIn K C).isSome && PySem.W.typeIn K (.ref C) == some (.type "type")) = true then (fastBuiltinMro "NoneType").map (·.contains (.ref C)) else none) = _
  rw [h1, h.ty, if_pos (by simp)]
  rw [show fastBuiltinMro "NoneType" = some [.type "NoneType", .type "object"] by decide +kernel]
  rfl
theorem g_isNo {bm : List Value} (h : ClsAt K C bm) (k : Q (.bl false) H) : rIsNK K [.non, .ref C] H Q := .inl ⟨.non, .ref C, _, _, false, rfl, .own _, .base .non, kit_nt h, k⟩
theorem cont_no {F : Addr} (h : C ≠ F) : (Value.ref F :: veT).contains (.ref C) = false := by
  have ne : (Value.ref C == Value.ref F) = false := by
    rw [beq_eq_false_iff_ne]
    exact fun z => h (Value.ref.inj z)
  rw [List.contains_cons, ne]
  rfl
/-- a word and a part, as data -/
abbrev wd (w p : Str) : PyData := .tuple [.str w, .str p]
theorem dq_wd {t : Int} {pp : Addr} {w p : Str} (hq : Qy K q t H) (n : H pp = none) (s : Same H H1) (e : H1 pp = some (.tup [.str w, .str p])) (lw : w.length ≤ 1000) (lp : p.length ≤ 1000) : Dq q K H1 (.ref pp) (wd w p) :=
  .tup (hq.ne n) (tupU e) (.cons (.str _ lw) (.cons (.str _ lp) .nil))
theorem DqAll.rep {vs : List V} {ds : List PyData} (h : DqAll q K H vs ds) : ∀ n : Nat, DqAll q K H (List.replicate n vs).flatten (List.replicate n ds).flatten
  | 0 => .nil
  | n + 1 => by
    rw [List.replicate_succ, List.replicate_succ, List.flatten_cons, List.flatten_cons]
    exact h.app (DqAll.rep h n)
/-- two lists of one data differ nowhere -/
theorem g_neW {a b : Addr} {vs ws : List V} {ds : List PyData} (h1 : SqL K H a vs) (h2 : SqL K H b ws) (d1 : DqAll q K H vs ds) (d2 : DqAll q K H ws ds) (hn : noDct.all ds = true) (hs : SeqAt.shaped (.list ds) = true) (hl : (PyData.list ds).canLay0 = true) (k : Q (.bl false) H) : rNeU K (.ref a) (.ref b) H Q := by
  refine .inr ⟨.list ds, .list ds, .lst h1 (d1.dp hn), .lst h2 (d2.dp hn), hs, hs, ?_⟩
  rw [SeqAt.eqv_refl (.list ds) hl]
  exact k
theorem g_neWt {v u : V} {d : PyData} (h1 : Dq q K H v d) (h2 : Dq q K H u d) (hn : noDct d = true) (hs : SeqAt.shaped d = true) (hl : d.canLay0 = true) (k : Q (.bl false) H) : rNeU K v u H Q := by
  refine .inr ⟨d, d, h1.dp hn, h2.dp hn, hs, hs, ?_⟩
  rw [SeqAt.eqv_refl d hl]
  exact k
/-- a list display whose walk waits -/
def tLstE (ta : TA) : TE := tLst ta
theorem g_lstE {ta : TA} {ds : List PyData} (h : EvDs q K ta σ H ds) (hl : ds.length ≤ 900) (k : ∀ vs p H2, Same H H2 → H p = none → H2 p = some (.lst vs) → DqAll q K H2 vs ds → p ≠ q ∨ True → Q (.ref p) H2) : tLstE ta σ H Q := by
  refine g_lst (EvDs.run h fun vs H2 s2 hds => g_newL (by rw [hds.len]; exact Nat.le_of_lt (small1000 (by omega))) fun p H3 n3 s3 e3 => ?_)
  exact k vs p H3 (s2.trans s3) (s2.free n3) e3 (hds.go (Same.x s3)) (.inr trivial)
/-- a list that a law keeps, and its data -/
structure KL (q : Addr) (K : PySem.W.Frag) (H : Hp) (p : Addr) (vs : List V) (ds : List PyData) : Prop where
  e : H p = some (.lst vs)
  n : p ≠ q
  a : DqAll q K H vs ds
theorem KL.kx {p : Addr} {vs : List V} {ds : List PyData} (s : Kx q H H1) (h : KL q K H p vs ds) : KL q K H1 p vs ds := ⟨s _ _ h.e h.n (fun ps z => nomatch z), h.n, h.a.kx s⟩
/-- what stands while a turn of a law asks -/
structure LS (q : Addr) (T : List (Addr × Str)) (K : PySem.W.Frag) (t : Int) (H : Hp) (vs : List V) (ds : List PyData) (us : List V) (es : List PyData) : Prop where
  qy : Qy K q t H
  tab : LamX.Tabs T H
  o : DqAll q K H us es
  a : DqAll q K H vs ds
section
variable {T : List (Addr × Str)} {t t' : Int} {vs us : List V} {ds es : List PyData}
theorem LS.same (s : Same H H1) (h : LS q T K t H vs ds us es) : LS q T K t H1 vs ds us es := ⟨h.qy.same s, h.tab.ext s, h.o.kx (Same.kx s), h.a.kx (Same.kx s)⟩
theorem LS.ext (s : LamX.ExtN H H1) (hT : LamX.Tabs T H1) (h : LS q T K t H vs ds us es) : LS q T K t H1 vs ds us es := ⟨h.qy.ext s, hT, h.o.kx (extN_kx s), h.a.kx (extN_kx s)⟩
theorem LS.sx (s : SameX q H H1) (hq : Qy K q t' H1) (h : LS q T K t H vs ds us es) : LS q T K t' H1 vs ds us es := ⟨hq, tabs_x h.qy s h.tab, h.o.kx (SameX.kx s), h.a.kx (SameX.kx s)⟩
theorem LS.snoc {v : V} {d : PyData} (hd : Dq q K H v d) (h : LS q T K t H vs ds us es) : LS q T K t H (vs ++ [v]) (ds ++ [d]) us es := ⟨h.qy, h.tab, h.o, h.a.app (.cons hd .nil)⟩
theorem DqAll.fst {v : V} {d : PyData} (h : DqAll q K H (v :: us) (d :: es)) : Dq q K H v d := by
  cases h with
  | cons h _ => exact h
theorem DqAll.snd {v v2 : V} {d d2 : PyData} (h : DqAll q K H (v :: v2 :: us) (d :: d2 :: es)) : Dq q K H v2 d2 := by
  cases h with
  | cons _ t => exact t.fst
theorem DqAll.trd4 {v1 v2 v3 v4 : V} {d1 d2 d3 d4 : PyData} (h : DqAll q K H [v1, v2, v3, v4] [d1, d2, d3, d4]) : Dq q K H v4 d4 := by
  cases h with
  | cons _ h => cases h with
    | cons _ h => cases h with
      | cons _ h => exact h.fst
theorem DqAll.take {vs : List V} {ds : List PyData} (h : DqAll q K H vs ds) : ∀ n : Nat, DqAll q K H (vs.take n) (ds.take n) := by
  induction vs generalizing ds with
  | nil =>
    cases h
    intro n
    cases n <;> exact .nil
  | cons v vs ih =>
    cases h with
    | cons h t =>
      intro n
      cases n with
      | zero => exact .nil
      | succ n => exact .cons h (ih t n)
theorem LS.none (h : LS q T K t H vs ds us es) : LS q T K t H [] [] us es := ⟨h.qy, h.tab, h.o, .nil⟩
end
end
end Mf
namespace Mf
open PySem PySem.Spec PySem.Calls PyProof.Rows L2
/-! what a law makes of a caught error, told by its class -/
def EsR (R : Addr → Str → Prop) (Q : VK) : XK := fun cls dd H' => ∃ (d : Addr) (p : Str) (C : Addr) (w : Str), dd = some d ∧ cls = .ref C ∧ H' d = some (.xd [("part", .str p)]) ∧ R C w ∧
  ∀ pp H2, Same H' H2 → H' pp = none → H2 pp = some (.tup [.str w, .str p]) → Q (.ref pp) H2
def TTr (R : Addr → Str → Prop) : (XK → Hp → VK → Prop) → Hp → VK → Prop := fun tl H Q => tl (EsR R Q) H (QsH Q)
def R3 (CP CN CM : Addr) : Addr → Str → Prop := fun C w => (C = CP ∧ w = "poly") ∨ (C = CN ∧ w = "number") ∨ (C = CM ∧ w = "misfit")
section
variable {q : Addr} {K : PySem.W.Frag} {H H1 H' : Hp} {σ : L2.St} {Q : VK} {E : XK} {C : Addr} {R : Addr → Str → Prop} {v v1 v2 : V} {rs : List Rat}
theorem Er1.wr {p w : Str} (hC : R C w) (k : ∀ pp H2, Same H H2 → H pp = none → H2 pp = some (.tup [.str w, .str p]) → Q (.ref pp) H2) : Er1 C p H (EsR R Q) :=
  fun dd H' n s e => ⟨dd, p, C, w, rfl, rfl, e, hC, fun pp H2 s2 n2 e2 => k pp H2 (s.trans s2) (s.free n2) e2⟩
theorem g_ttr {tl : XK → Hp → VK → Prop} (k : tl (EsR R Q) H (QsH Q)) : TTr R tl H Q := k
/-- fractions, and what are none -/
def GF (q : Addr) (K : PySem.W.Frag) (H : Hp) (v : V) : Prop := ∃ d, Dq q K H v d ∧ isFrD d = true
def BF (q : Addr) (K : PySem.W.Frag) (H : Hp) (v : V) : Prop := ∃ d, Dq q K H v d ∧ isFrD d = false
theorem GF.go (s : Same H H1) (h : GF q K H v) : GF q K H1 v := by
  obtain ⟨d, h1, h2⟩ := h
  exact ⟨d, h1.go (Same.x s), h2⟩
theorem BF.go (s : Same H H1) (h : BF q K H v) : BF q K H1 v := by
  obtain ⟨d, h1, h2⟩ := h
  exact ⟨d, h1.go (Same.x s), h2⟩
/-- a polynomial of small numbers -/
def GP (q : Addr) (K : PySem.W.Frag) (H : Hp) (v : V) (rs : List Rat) : Prop := ∃ a xs ds, v = .ref a ∧ a ≠ q ∧ Sq K H a xs ∧ DqAll q K H xs ds ∧ (∀ d ∈ ds, isFrD d = true ∧ Bt 8 (upD d) ∧ Bt 8 (dnD d)) ∧ ds.length ≤ 80 ∧ trimR (ds.map valQ) = rs
theorem GP.go (s : Same H H1) (h : GP q K H v rs) : GP q K H1 v rs := by
  obtain ⟨a, xs, ds, h1, h2, h3, h4, h5⟩ := h
  exact ⟨a, xs, ds, h1, h2, h3.go (Same.x s) h2, h4.go (Same.x s), h5⟩
theorem GP.rb (h : GP q K H v rs) : RbL 8 rs := by
  obtain ⟨a, xs, ds, h1, h2, h3, h4, h5, h6, rfl⟩ := h
  intro r hr
  obtain ⟨d, hd, rfl⟩ := List.mem_map.mp (mem_trim hr)
  obtain ⟨f, b1, b2⟩ := h5 d hd
  exact Rb.of (fr_dn f) b1 b2
theorem GP.len (h : GP q K H v rs) : rs.length ≤ 80 := by
  obtain ⟨a, xs, ds, h1, h2, h3, h4, h5, h6, rfl⟩ := h
  have := len_trim_le (ds.map valQ)
  rw [List.length_map] at this
  omega
theorem rp_ok {part : V} (h : GP q K H v rs) (k : ∀ p H' ws, Same H H' → H p = none → H' p = some (.tup ws) → TL H' ws rs → Q (.ref p) H') : sp_rpoly K [v, part] H Q E := by
  obtain ⟨a, xs, ds, rfl, na, hs, hd, ok, hl, rfl⟩ := h
  exact ⟨q, a, xs, ds, 8, _, rfl, na, hs, hd, ok, by decide, hl, fun p H' ws s n e t => k p H' ws s n e t⟩
theorem oo_ok {p : Addr} {ws : List V} (e : H p = some (.tup ws)) (t : TL H ws rs) (b : RbL 8 rs) (l : rs.length ≤ 80) (k : ∀ p2 H' L (us : List Int), Same H H' → H p2 = none → H' p2 = some (.tup [.ref L, .int (lcmL rs : Int)]) → H' L = some (.lst (us.map V.int)) → us.length = rs.length → Q (.ref p2) H') : sp_oood K [.ref p] H Q E :=
  ⟨p, ws, rs, 8, rfl, e, t, b, by omega, by decide, by omega, fun p2 H' L us s n e1 e2 lu _ => k p2 H' L us s n e1 e2 lu⟩
/-- places that are none -/
def isPtsD (d : PyData) : Bool := isSeqD d && (decide ((itemsD d).length ≤ 40) && ((itemsD d).map isPlD).all id)
theorem nodup_le {α : Type} [DecidableEq α] : ∀ {A B : List α}, A.Nodup → (∀ x ∈ A, x ∈ B) → A.length ≤ B.length
  | [], _, _, _ => Nat.zero_le _
  | a :: A, B, hA, h => by
    have hA' := List.nodup_cons.mp hA
    have ih := nodup_le (A := A) (B := B.erase a) hA'.2 fun x hx => (List.mem_erase_of_ne (fun z : x = a => hA'.1 (by rw [← z]; exact hx))).mpr (h x (List.mem_cons_of_mem _ hx))
    have := List.length_erase_of_mem (h a List.mem_cons_self)
    have pos := List.length_pos_of_mem (h a List.mem_cons_self)
    simp only [List.length_cons]
    omega
theorem nodup_lt {α : Type} [DecidableEq α] : ∀ {B A : List α}, A.Nodup → (∀ x ∈ A, x ∈ B) → ¬ B.Nodup → A.length < B.length
  | [], _, _, _, hB => absurd List.nodup_nil hB
  | b :: B, A, hA, h, hB => by
    by_cases hb : b ∈ B
    · have := nodup_le hA (B := B) fun x hx => by
        rcases List.mem_cons.mp (h x hx) with rfl | z
        · exact hb
        · exact z
      simp only [List.length_cons]
      omega
    · have nB : ¬ B.Nodup := fun z => hB (List.nodup_cons.mpr ⟨hb, z⟩)
      have ih := nodup_lt (B := B) (A := A.erase b) (hA.erase b) (fun x hx => by
        have hx2 := List.mem_of_mem_erase hx
        rcases List.mem_cons.mp (h x hx2) with rfl | z
        · exact absurd hx (List.Nodup.not_mem_erase hA)
        · exact z) nB
      by_cases hm : b ∈ A
      · have := List.length_erase_of_mem hm
        have pos := List.length_pos_of_mem hm
        simp only [List.length_cons]
        omega
      · rw [List.erase_of_not_mem hm] at ih
        simp only [List.length_cons]
        omega
theorem keys_lt {ks L : List (Addr × List Int)} (h1 : ¬ (ks.map (·.2)).Nodup) (h2 : (L.map (·.2)).Nodup) (h3 : ∀ p ∈ L, p ∈ ks) : L.length < ks.length := by
  have := nodup_lt (B := ks.map (·.2)) (A := L.map (·.2)) h2 (fun x hx => by
    obtain ⟨p, hp, rfl⟩ := List.mem_map.mp hx
    exact List.mem_map.mpr ⟨p, h3 p hp, rfl⟩) h1
  rwa [List.length_map, List.length_map] at this
theorem keys_dup {rs : List Rat} (h : ¬ rs.Nodup) : ¬ (rs.map keyOf).Nodup := fun z => h (by
  rw [List.nodup_iff_pairwise_ne] at *
  rw [List.pairwise_map] at z
  exact z.imp fun ne e => ne (by rw [e]))
/-- a def that is not come to -/
theorem De.none {c : Cn} {x : Str} {st : Stmt} {N ps : List Str} (k : Nat) (D : De c x st) (S : FnScope N ps (defScope st)) : Cl c (k + 1) x st ps (fun _ _ _ _ => False) :=
  De.cl (N := N) D S (fun _ _ _ _ h => h.elim) (fun _ _ _ _ _ _ _ _ _ _ _ h => h.elim)
theorem sgn_le {n : Int} (h : n ≤ 0) : sgn n ≤ 0 := by
  unfold sgn
  split
  · decide
  · split
    · omega
    · decide
theorem Dq.tupT {ds : List PyData} (h : Dq q K H v (.tuple ds)) : ∃ a xs, v = .ref a ∧ a ≠ q ∧ SqT K H a xs ∧ DqAll q K H xs ds := by
  cases h with
  | tup n h ha => exact ⟨_, _, rfl, n, h, ha⟩
end
end Mf
namespace Mf
open PySem PySem.Spec PySem.Calls PyProof.Rows L2
section
variable {q : Addr} {K : PySem.W.Frag} {H H1 : Hp} {σ : L2.St} {Q : VK} {v : V} {rs : List Rat}
instance {n : Nat} {x : Int} : Decidable (Bt n x) := inferInstanceAs (Decidable (x.natAbs < 2 ^ n))
theorem tup_upd {l a : Addr} {xs ys : List V} {o : HO} (hl : H l = some (.lst ys)) (h : SqT K H a xs) : SqT K (upd H l o) a xs := by
  have ne : ∀ {u : HO}, H a = some u → (∀ zs, u ≠ .lst zs) → a ≠ l := fun e n z => by
    rw [z, hl] at e
    cases e
    exact n _ rfl
  rcases h with (h | ⟨u, h⟩) | h
  · exact .inl (.inl (by rw [upd_ne (ne h (fun zs z => nomatch z))]; exact h))
  · exact .inl (.inr ⟨u, by rw [upd_ne (ne h (fun zs z => nomatch z))]; exact h⟩)
  · exact .inr h
theorem GP.kx (s : Kx q H H1) (h : GP q K H v rs) : GP q K H1 v rs := by
  obtain ⟨a, xs, ds, h1, h2, h3, h4, h5⟩ := h
  refine ⟨a, xs, ds, h1, h2, ?_, h4.kx s, h5⟩
  rcases h3 with h3 | h3
  · exact .inl (s.seq h2 h3)
  · exact .inr (s.tup h2 h3)
theorem GP.ints {p : Addr} {is : List Int} (np : p ≠ q) (e : H p = some (.lst (is.map V.int))) (b : ∀ i ∈ is, Bt 8 i) (l : is.length ≤ 80) : GP q K H (.ref p) (trimR ((is.map PyData.int).map valQ)) := by
  refine ⟨p, is.map V.int, is.map PyData.int, rfl, np, .inl (seqU e), ?_, fun d hd => ?_, by rw [List.length_map]; exact l, rfl⟩
  · clear b l e
    induction is with
    | nil => exact .nil
    | cons i is ih => exact .cons (.int i) ih
  · obtain ⟨i, hi, rfl⟩ := List.mem_map.mp hd
    exact ⟨rfl, b i hi, by show (1 : Int).natAbs < 2 ^ 8; decide⟩
/-- a menu's polynomial -/
def okP (d : PyData) : Prop := isSeqD d = true ∧ (∀ e ∈ itemsD d, isFrD e = true ∧ Bt 8 (upD e) ∧ Bt 8 (dnD e)) ∧ (itemsD d).length ≤ 80
theorem GP.of {d : PyData} (h : Dq q K H v d) (o : okP d) (ht : trimR ((itemsD d).map valQ) = rs) : GP q K H v rs := by
  obtain ⟨o1, o2, o3⟩ := o
  obtain ⟨a, xs, ds, rfl, na, hs, hall, edd⟩ := h.seq o1
  have eit : itemsD d = ds := by rcases edd with rfl | rfl <;> rfl
  rw [eit] at o2 o3 ht
  exact ⟨a, xs, ds, rfl, na, hs, hall, o2, o3, ht⟩
theorem DqAll.tl {v : V} {d : PyData} {us : List V} {es : List PyData} (h : DqAll q K H (v :: us) (d :: es)) : DqAll q K H us es := by
  cases h with
  | cons _ t => exact t
theorem g_eqW {a b : Addr} {vs ws : List V} {ds : List PyData} (h1 : SqL K H a vs) (h2 : SqL K H b ws) (d1 : DqAll q K H vs ds) (d2 : DqAll q K H ws ds) (hn : noDct.all ds = true) (hs : SeqAt.shaped (.list ds) = true) (hl : (PyData.list ds).canLay0 = true) (k : Q (.bl true) H) : rEqU K (.ref a) (.ref b) H Q := by
  refine .inr ⟨.list ds, .list ds, .lst h1 (d1.dp hn), .lst h2 (d2.dp hn), hs, hs, ?_⟩
  rw [SeqAt.eqv_refl (.list ds) hl]
  exact k
/-- [i] * n in a menu -/
def tMulE (te tb : TE) : TE := tOp rMulU te tb
theorem ed_rep {o : HO} {i n : Int} (hq : H q = some o) (k0 : 0 ≤ n) (k1 : n ≤ 900) : EvD q K (tMulE (tLst (tCons (tC (.int i)) tNil)) (tC (.int n))) σ H (.list (List.replicate n.toNat (.int i))) := by
  intro H1 s Q k
  refine ⟨by show 1 ≤ sizeLine; decide, fun p hp => ?_⟩
  have hz : [V.int i].length * n.toNat ≤ sizeLine := by
    simp only [List.length_cons, List.length_nil]
    exact Nat.le_trans (by omega : _ ≤ 900) (by decide)
  refine g_rep (xs := [V.int i]) upd_same k0 (by omega) hz fun p2 H2 hp2 s2 e2 => ?_
  have s3 := (same_new (o := .lst [V.int i]) hp).trans s2
  have nq : p2 ≠ q := (ne_of_none ((same_new (o := .lst [V.int i]) hp) _ _ (s _ _ hq)) hp2).symm
  have e : ∀ m : Nat, DqAll q K H2 (List.replicate m [V.int i]).flatten (List.replicate m (PyData.int i)) := fun m => by
    induction m with
    | zero => exact .nil
    | succ m ih => exact .cons (.int i) ih
  exact k _ _ s3 (.lst nq (seqU e2) (e _))
/-- [(x, 1) for x in range(n)] in a menu -/
theorem ed_range {o : HO} {n : Int} {j : Nat} {vs : List Nat} (hq : H q = some o) (k0 : 0 ≤ n) (k1 : n ≤ 900) (hw : ∀ x, wipe ((wipe σ vs).set j (some x)) vs = wipe σ vs) (hg : ∀ x, ((wipe σ vs).set j (some x))[j]? = some (some x)) :
    EvD q K (tLc (iRng1 (tCons (tC (.int n)) tNil)) (gName j) tYes (tTup (tCons (tVar j) (tCons (tC (.int 1)) tNil))) vs) σ H (.list ((List.range n.toNat).map fun (i : Nat) => PyData.tuple [.int (0 + (i : Int)), .int 1])) := by
  intro H1 s Q k
  refine g_lcR (g_cons (g_c (g_nil ⟨n, rfl, by omega, by omega, ?_⟩)))
  refine lcgo_range (fun D i H' => Same H1 H' ∧ D ≠ q ∧ ∃ ws, H' D = some (.lst ws) ∧ ws.length = i ∧ DqAll q K H' ws ((List.range i).map fun (i : Nat) => PyData.tuple [.int (0 + (i : Int)), .int 1])) hw (fun D hD => ⟨same_new hD, (ne_of_none (s _ _ hq) hD).symm, [], upd_same, rfl, .nil⟩) (fun D i H' hD hi h => ?_) (fun D H' hD h => ?_)
  · obtain ⟨s1, nD, ws, e1, l1, d1⟩ := h
    refine g_tup (g_cons (g_var (hg _) (g_cons (g_c (g_nil ?_)))))
    refine g_newT (by show 2 ≤ sizeLine; decide) fun p H2 hp s2 e2 => ?_
    have np : p ≠ q := (ne_of_none (s1 _ _ (s _ _ hq)) hp).symm
    have npD : p ≠ D := (ne_of_none e1 hp).symm
    have e1' := s2 _ _ e1
    have sx : ∀ b o, H1 b = some o → upd H2 D (.lst (ws ++ [.ref p])) b = some o := fun b o e => by
      rw [upd_ne (ne_of_none e hD)]
      exact s2 _ _ (s1 _ _ e)
    have keepT : ∀ {a : Addr} {xs : List V}, H2 a = some (.tup xs) → upd H2 D (.lst (ws ++ [.ref p])) a = some (.tup xs) := fun {a xs} e => by
      rw [upd_ne (fun z => by rw [z, e1'] at e; cases e)]
      exact e
    refine ⟨ws, e1', small1000 (by omega), sx, nD, ws ++ [.ref p], upd_same, by rw [List.length_append, l1]; rfl, ?_⟩
    rw [List.range_succ, List.map_append]
    refine DqAll.app ?_ (.cons (.tup np (tupU (keepT e2)) (.cons (.int _) (.cons (.int _) .nil))) .nil)
    have d2 := d1.go (Same.x (q := q) s2)
    clear e2 e1 l1 d1 hg hw
    have gen : ∀ {us : List V} {m : Nat} {L : List Nat}, DqAll q K H2 us (L.map fun (i : Nat) => PyData.tuple [.int (0 + (i : Int)), .int 1]) → DqAll q K (upd H2 D (.lst (ws ++ [.ref p]))) us (L.map fun (i : Nat) => PyData.tuple [.int (0 + (i : Int)), .int 1]) := by
      intro us m L
      induction L generalizing us with
      | nil =>
        intro h
        cases h
        exact .nil
      | cons i L ih =>
        intro h
        cases h with
        | cons h t =>
          refine .cons ?_ (ih t)
          cases h with
          | tup n hT ha =>
            cases ha with
            | cons h1 t1 => cases h1; cases t1 with
              | cons h2 t2 => cases h2; cases t2
                              exact .tup n (tup_upd e1' hT) (.cons (.int _) (.cons (.int _) .nil))
    exact gen (m := 0) d2
  · obtain ⟨s1, nD, ws, e1, l1, d1⟩ := h
    exact k _ _ s1 (.lst nD (seqU e1) d1)
end
/-! a list that grows in place -/
section
variable {q : Addr} {K : PySem.W.Frag} {H : Hp} {T : List (Addr × Str)} {t : Int}
theorem LS.appd {l x : Addr} {vs ws us : List V} {ds es : List PyData} {o : HO} (h : LS q T K t H vs ds us es) (nl : l ≠ q) (hl : H l = some (.lst (.ref x :: ws))) : LS q T K t (upd H l o) [] [] [] [] := by
  obtain ⟨hq, hT, _, _⟩ := h
  have hn : Qn q l H := by
    intro c t' r' e z
    obtain ⟨c0, ns, r, h1, h2, _⟩ := id hq
    rw [h1] at e
    cases e
    rw [z, hl] at h2
    cases ns with
    | nil => cases h2
    | cons i ns => cases h2
  refine ⟨hq.upd hn nl, ?_, .nil, .nil⟩
  intro p hp
  obtain ⟨ps, a1, a2, a3⟩ := hT p hp
  have nq : ∀ {b : Addr} {u : HO}, H b = some u → (∀ xs, u ≠ .lst xs) → b ≠ l := fun e n z => by
    rw [z, hl] at e
    cases e
    exact n _ rfl
  refine ⟨ps, by rw [upd_ne (nq a1 (fun xs z => nomatch z))]; exact a1, a2, fun pos cv hc => ?_⟩
  obtain ⟨c, k1, k2⟩ := a3 pos cv hc
  exact ⟨c, k1, by rw [upd_ne (nq k2 (fun xs z => nomatch z))]; exact k2⟩
theorem LS.app2 {l x : Addr} {ws us : List V} {ds es ks : List PyData} {vs : List V} (h : LS q T K t H vs ds us es) (k : KL q K H l (.ref x :: ws) ks) (v : V) : LS q T K t (upd H l (.lst ((.ref x :: ws) ++ [v]))) [] [] [] [] := h.appd k.n k.e
theorem dq_upd {l : Addr} {ys : List V} {o : HO} {v : V} {w p : Str} (hl : H l = some (.lst ys)) (h : Dq q K H v (wd w p)) : Dq q K (upd H l o) v (wd w p) := by
  cases h with
  | tup n hT ha =>
    refine .tup n (tup_upd hl hT) ?_
    cases ha with
    | cons h1 t1 => cases h1 with
      | str _ b1 => cases t1 with
        | cons h2 t2 => cases h2 with
          | str _ b2 =>
            cases t2
            exact .cons (.str _ b1) (.cons (.str _ b2) .nil)
theorem dqs_upd {l : Addr} {ys : List V} {o : HO} (hl : H l = some (.lst ys)) : ∀ {vs : List V} {L : List (Str × Str)}, DqAll q K H vs (L.map fun z => wd z.1 z.2) → DqAll q K (upd H l o) vs (L.map fun z => wd z.1 z.2) := by
  intro vs L
  induction L generalizing vs with
  | nil =>
    intro h
    cases h
    exact .nil
  | cons z L ih =>
    intro h
    cases h with
    | cons h t => exact .cons (dq_upd hl h) (ih t)
/-- .. by a word and a part -/
theorem KL.appd {l : Addr} {vs : List V} {v : V} {w p : Str} {L : List (Str × Str)} (h : KL q K H l vs (L.map fun z => wd z.1 z.2)) (hv : Dq q K H v (wd w p)) : KL q K (upd H l (.lst (vs ++ [v]))) l (vs ++ [v]) ((L.map fun z => wd z.1 z.2) ++ [wd w p]) :=
  ⟨upd_same, h.n, (dqs_upd h.e h.a).app (.cons (dq_upd h.e hv) .nil)⟩
end
end Mf
namespace Mf
open PySem PySem.Spec PyProof.Rows L2
local macro_rules | `(tactic| walk_at "mf1") => `(tactic| first
  | ((with_reducible apply g_var); exact rfl)
  | with_reducible first
    | refine g_c ?_ | refine g_op ?_ | refine g_un ?_ | refine g_cb ?_ | refine g_cl ?_ | refine g_clX ?_ | refine g_mkR ?_ | refine g_clk ?_ | refine g_nil ?_ | refine g_cons ?_
    | refine g_tB ?_ | refine g_test ?_ | refine g_bl ?_ | refine g_and ?_ | refine g_or ?_ | refine g_not ?_ | refine g_andV ?_ | refine g_orV ?_ | refine g_notV ?_
    | refine g_if ?_ | refine g_ifS ?_ | refine g_seq ?_ | refine g_next ?_ | refine g_ret ?_ | refine g_drop ?_ | refine g_asg ?_ | refine g_name ?_ | refine g_sub ?_
    | refine g_int ?_ | refine g_intB ?_ | refine g_abs ?_ | refine g_I0 ?_ | refine g_addI ?_ | refine g_U ?_ | refine g_isNn ?_ | refine g_isNi ?_ | refine g_notN ?_ | refine g_notT1 ?_ | refine g_notT2 ?_ | refine g_notT3 ?_ | refine g_notT4 ?_ | refine g_notTb ?_ | refine g_notTi ?_ | refine g_eqI ?_ | refine g_neI ?_ | refine g_neSs ?_ | refine g_neS ?_ | refine g_eqS ?_
    | refine g_iteT ?_ | refine g_iteF ?_ | refine g_iteNT ?_ | refine g_iteNF ?_ | refine g_lst ?_ | refine g_tup ?_ | refine g_seqP ?_ | refine g_sl ?_ | refine g_noPart ?_ | refine g_part ?_ | refine g_yes ?_ | refine g_thenT ?_ | refine g_consG ?_ | refine g_nilG ?_ | refine g_ii ?_ | refine g_par ?_ | refine g_par3 ?_ | refine g_vv ?_ | refine g_vvv ?_ | refine g_reprB ?_ | refine g_lcL ?_ | refine g_lcR ?_
  | ((with_reducible refine g_mod ?_ ?_); (first | omega | decide))
  | ((with_reducible refine g_div ?_ ?_ ?_); (first | omega | decide); (first | assumption | decide))
  | ((with_reducible refine g_mulL ?_ ?_ ?_); (first | omega | decide); (first | omega | decide))
  | ((with_reducible refine g_mulR ?_ ?_ ?_); (first | omega | decide); (first | omega | decide))
  | ((with_reducible refine g_pow ?_ ?_ ?_ ?_); decide; decide; (first | omega | decide))
  | dsimp only)
local macro_rules | `(tactic| walk_at "mf1s") => `(tactic| first
  | ((with_reducible apply g_var); exact rfl)
  | with_reducible first
    | refine g_c ?_ | refine g_op ?_ | refine g_un ?_ | refine g_cb ?_ | refine g_cl ?_ | refine g_clX ?_ | refine g_mkR ?_ | refine g_clk ?_ | refine g_nil ?_ | refine g_cons ?_
    | refine g_tB ?_ | refine g_test ?_ | refine g_bl ?_ | refine g_and ?_ | refine g_or ?_ | refine g_not ?_ | refine g_andV ?_ | refine g_orV ?_ | refine g_notV ?_
    | refine g_if ?_ | refine g_ifS ?_ | refine g_next ?_ | refine g_ret ?_ | refine g_drop ?_ | refine g_asg ?_ | refine g_name ?_ | refine g_sub ?_
    | refine g_int ?_ | refine g_intB ?_ | refine g_abs ?_ | refine g_I0 ?_ | refine g_addI ?_ | refine g_U ?_ | refine g_isNn ?_ | refine g_isNi ?_ | refine g_notN ?_ | refine g_notT1 ?_ | refine g_notT2 ?_ | refine g_notT3 ?_ | refine g_notT4 ?_ | refine g_notTb ?_ | refine g_notTi ?_ | refine g_eqI ?_ | refine g_neI ?_ | refine g_neSs ?_ | refine g_neS ?_ | refine g_eqS ?_
    | refine g_iteT ?_ | refine g_iteF ?_ | refine g_iteNT ?_ | refine g_iteNF ?_ | refine g_lst ?_ | refine g_tup ?_ | refine g_seqP ?_ | refine g_sl ?_ | refine g_noPart ?_ | refine g_part ?_ | refine g_yes ?_ | refine g_thenT ?_ | refine g_consG ?_ | refine g_nilG ?_ | refine g_ii ?_ | refine g_par ?_ | refine g_par3 ?_ | refine g_vv ?_ | refine g_vvv ?_ | refine g_reprB ?_ | refine g_lcL ?_ | refine g_lcR ?_
  | ((with_reducible refine g_mod ?_ ?_); (first | omega | decide))
  | ((with_reducible refine g_div ?_ ?_ ?_); (first | omega | decide); (first | assumption | decide))
  | ((with_reducible refine g_mulL ?_ ?_ ?_); (first | omega | decide); (first | omega | decide))
  | ((with_reducible refine g_mulR ?_ ?_ ?_); (first | omega | decide); (first | omega | decide))
  | ((with_reducible refine g_pow ?_ ?_ ?_ ?_); decide; decide; (first | omega | decide))
  | dsimp only)
local macro_rules | `(tactic| walk_at "mfs") => `(tactic| repeat walk_at "mf1s")
local macro_rules | `(tactic| walk_at "mf") => `(tactic| repeat walk_at "mf1")
local macro_rules | `(tactic| walk_at "ed") => `(tactic| repeat (first
  | with_reducible first
    | exact eds_nil | apply eds_cons | exact ed_int | exact ed_bl | exact ed_non | apply ed_neg
  | ((with_reducible apply ed_str); decide)
  | ((with_reducible apply ed_var); (exact rfl); (first | assumption | exact Dq.int _))
  | ((with_reducible apply ed_dict0); assumption)
  | ((with_reducible apply ed_dict2); assumption)
  | ((with_reducible apply ed_tup); assumption)
  | ((with_reducible apply ed_lst); assumption)
  | (with_reducible apply ed_pow)
  | (with_reducible apply ed_mul)
  | assumption
  | (exact Dq.int _)
  | (exact ⟨by decide, by decide, by decide⟩)
  | (show List.length _ ≤ 1000; simp only [List.length_cons, List.length_nil]; decide)))
def topS (i : Nat) : Stmt := PySem.Challenge.pw_mapflow_k46_polynomials_and_zeros_refuse.main.body.getD i (.Pass ⟨0, 0, 0, 0⟩)
abbrev s_is_integer : Stmt := topS 2
theorem sc_is_integer : FnScope ["value"] ["value"] (defScope s_is_integer) := ⟨rfl, rfl, rfl, by decide +kernel, rfl, by decide +kernel, by decide +kernel⟩
theorem pl_is_integer : Pl "is_integer" s_is_integer ["value"] := fun _ _ _ _ _ _ us hl => match us, hl with | [_], _ => rfl
abbrev s_is_within : Stmt := topS 3
theorem sc_is_within : FnScope ["value", "least", "most"] ["value", "least", "most"] (defScope s_is_within) := ⟨rfl, rfl, rfl, by decide +kernel, rfl, by decide +kernel, by decide +kernel⟩
theorem pl_is_within : Pl "is_within" s_is_within ["value", "least", "most"] := fun _ _ _ _ _ _ us hl => match us, hl with | [_, _, _], _ => rfl
abbrev s_is_list : Stmt := topS 4
theorem sc_is_list : FnScope ["value"] ["value"] (defScope s_is_list) := ⟨rfl, rfl, rfl, by decide +kernel, rfl, by decide +kernel, by decide +kernel⟩
theorem pl_is_list : Pl "is_list" s_is_list ["value"] := fun _ _ _ _ _ _ us hl => match us, hl with | [_], _ => rfl
abbrev s_is_fraction : Stmt := topS 5
theorem sc_is_fraction : FnScope ["value"] ["value"] (defScope s_is_fraction) := ⟨rfl, rfl, rfl, by decide +kernel, rfl, by decide +kernel, by decide +kernel⟩
theorem pl_is_fraction : Pl "is_fraction" s_is_fraction ["value"] := fun _ _ _ _ _ _ us hl => match us, hl with | [_], _ => rfl
abbrev s_is_place : Stmt := topS 6
theorem sc_is_place : FnScope ["value"] ["value"] (defScope s_is_place) := ⟨rfl, rfl, rfl, by decide +kernel, rfl, by decide +kernel, by decide +kernel⟩
theorem pl_is_place : Pl "is_place" s_is_place ["value"] := fun _ _ _ _ _ _ us hl => match us, hl with | [_], _ => rfl
abbrev s_reduced : Stmt := topS 14
theorem sc_reduced : FnScope ["up", "down", "common"] ["up", "down"] (defScope s_reduced) := ⟨rfl, rfl, rfl, by decide +kernel, rfl, by decide +kernel, by decide +kernel⟩
theorem pl_reduced : Pl "reduced" s_reduced ["up", "down"] := fun _ _ _ _ _ _ us hl => match us, hl with | [_, _], _ => rfl
abbrev s_read_fraction : Stmt := topS 15
theorem sc_read_fraction : FnScope ["value", "part", "up", "down"] ["value", "part"] (defScope s_read_fraction) := ⟨rfl, rfl, rfl, by decide +kernel, rfl, by decide +kernel, by decide +kernel⟩
theorem pl_read_fraction : Pl "read_fraction" s_read_fraction ["value", "part"] := fun _ _ _ _ _ _ us hl => match us, hl with | [_, _], _ => rfl
abbrev s_over_one_down : Stmt := topS 16
theorem sc_over_one_down : FnScope ["some", "down", "_", "below", "up"] ["some"] (defScope s_over_one_down) := ⟨rfl, rfl, rfl, by decide +kernel, rfl, by decide +kernel, by decide +kernel⟩
theorem pl_over_one_down : Pl "over_one_down" s_over_one_down ["some"] := fun _ _ _ _ _ _ us hl => match us, hl with | [_], _ => rfl
abbrev s_fraction_of : Stmt := topS 17
theorem sc_fraction_of : FnScope ["value"] ["value"] (defScope s_fraction_of) := ⟨rfl, rfl, rfl, by decide +kernel, rfl, by decide +kernel, by decide +kernel⟩
theorem pl_fraction_of : Pl "fraction_of" s_fraction_of ["value"] := fun _ _ _ _ _ _ us hl => match us, hl with | [_], _ => rfl
abbrev s_added : Stmt := topS 18
theorem sc_added : FnScope ["one", "other", "up", "down", "more", "below"] ["one", "other"] (defScope s_added) := ⟨rfl, rfl, rfl, by decide +kernel, rfl, by decide +kernel, by decide +kernel⟩
theorem pl_added : Pl "added" s_added ["one", "other"] := fun _ _ _ _ _ _ us hl => match us, hl with | [_, _], _ => rfl
abbrev s_taken : Stmt := topS 19
theorem sc_taken : FnScope ["one", "other", "up", "down", "less", "below"] ["one", "other"] (defScope s_taken) := ⟨rfl, rfl, rfl, by decide +kernel, rfl, by decide +kernel, by decide +kernel⟩
theorem pl_taken : Pl "taken" s_taken ["one", "other"] := fun _ _ _ _ _ _ us hl => match us, hl with | [_, _], _ => rfl
abbrev s_multiplied : Stmt := topS 20
theorem sc_multiplied : FnScope ["one", "other", "up", "down", "times", "below"] ["one", "other"] (defScope s_multiplied) := ⟨rfl, rfl, rfl, by decide +kernel, rfl, by decide +kernel, by decide +kernel⟩
theorem pl_multiplied : Pl "multiplied" s_multiplied ["one", "other"] := fun _ _ _ _ _ _ us hl => match us, hl with | [_, _], _ => rfl
abbrev s_divided : Stmt := topS 21
theorem sc_divided : FnScope ["one", "other", "up", "down", "times", "below"] ["one", "other"] (defScope s_divided) := ⟨rfl, rfl, rfl, by decide +kernel, rfl, by decide +kernel, by decide +kernel⟩
theorem pl_divided : Pl "divided" s_divided ["one", "other"] := fun _ _ _ _ _ _ us hl => match us, hl with | [_, _], _ => rfl
abbrev s_sign_of : Stmt := topS 22
theorem sc_sign_of : FnScope ["value", "up", "_"] ["value"] (defScope s_sign_of) := ⟨rfl, rfl, rfl, by decide +kernel, rfl, by decide +kernel, by decide +kernel⟩
theorem pl_sign_of : Pl "sign_of" s_sign_of ["value"] := fun _ _ _ _ _ _ us hl => match us, hl with | [_], _ => rfl
abbrev s_cut : Stmt := topS 24
theorem sc_cut : FnScope ["numbers", "length"] ["numbers"] (defScope s_cut) := ⟨rfl, rfl, rfl, by decide +kernel, rfl, by decide +kernel, by decide +kernel⟩
theorem pl_cut : Pl "cut" s_cut ["numbers"] := fun _ _ _ _ _ _ us hl => match us, hl with | [_], _ => rfl
abbrev s_times_whole : Stmt := topS 25
theorem sc_times_whole : FnScope ["one", "other", "product", "k", "number", "i", "more", "_"] ["one", "other"] (defScope s_times_whole) := ⟨rfl, rfl, rfl, by decide +kernel, rfl, by decide +kernel, by decide +kernel⟩
theorem pl_times_whole : Pl "times_whole" s_times_whole ["one", "other"] := fun _ _ _ _ _ _ us hl => match us, hl with | [_, _], _ => rfl
abbrev s_powers_of : Stmt := topS 26
theorem sc_powers_of : FnScope ["number", "many", "powers"] ["number", "many"] (defScope s_powers_of) := ⟨rfl, rfl, rfl, by decide +kernel, rfl, by decide +kernel, by decide +kernel⟩
theorem pl_powers_of : Pl "powers_of" s_powers_of ["number", "many"] := fun _ _ _ _ _ _ us hl => match us, hl with | [_, _], _ => rfl
abbrev s_scaled : Stmt := topS 27
theorem sc_scaled : FnScope ["numbers", "up", "down", "many", "below", "number", "power", "rest"] ["numbers", "up", "down"] (defScope s_scaled) := ⟨rfl, rfl, rfl, by decide +kernel, rfl, by decide +kernel, by decide +kernel⟩
theorem pl_scaled : Pl "scaled" s_scaled ["numbers", "up", "down"] := fun _ _ _ _ _ _ us hl => match us, hl with | [_, _, _], _ => rfl
abbrev s_shifted : Stmt := topS 28
theorem sc_shifted : FnScope ["numbers", "by", "told", "k", "i"] ["numbers", "by"] (defScope s_shifted) := ⟨rfl, rfl, rfl, by decide +kernel, rfl, by decide +kernel, by decide +kernel⟩
theorem pl_shifted : Pl "shifted" s_shifted ["numbers", "by"] := fun _ _ _ _ _ _ us hl => match us, hl with | [_, _], _ => rfl
abbrev s_value_whole : Stmt := topS 29
theorem sc_value_whole : FnScope ["numbers", "at", "up", "down"] ["numbers", "at"] (defScope s_value_whole) := ⟨rfl, rfl, rfl, by decide +kernel, rfl, by decide +kernel, by decide +kernel⟩
theorem pl_value_whole : Pl "value_whole" s_value_whole ["numbers", "at"] := fun _ _ _ _ _ _ us hl => match us, hl with | [_, _], _ => rfl
abbrev s_content_of : Stmt := topS 30
theorem sc_content_of : FnScope ["numbers", "common", "number"] ["numbers"] (defScope s_content_of) := ⟨rfl, rfl, rfl, by decide +kernel, rfl, by decide +kernel, by decide +kernel⟩
theorem pl_content_of : Pl "content_of" s_content_of ["numbers"] := fun _ _ _ _ _ _ us hl => match us, hl with | [_], _ => rfl
abbrev s_rest_whole : Stmt := topS 31
theorem sc_rest_whole : FnScope ["one", "other", "rest", "times", "head", "lead", "below", "_", "number", "less"] ["one", "other"] (defScope s_rest_whole) := ⟨rfl, rfl, rfl, by decide +kernel, rfl, by decide +kernel, by decide +kernel⟩
theorem pl_rest_whole : Pl "rest_whole" s_rest_whole ["one", "other"] := fun _ _ _ _ _ _ us hl => match us, hl with | [_, _], _ => rfl
abbrev s_quotient_whole : Stmt := topS 32
theorem sc_quotient_whole : FnScope ["one", "other", "rest", "quotient", "share", "shift", "k", "number"] ["one", "other"] (defScope s_quotient_whole) := ⟨rfl, rfl, rfl, by decide +kernel, rfl, by decide +kernel, by decide +kernel⟩
theorem pl_quotient_whole : Pl "quotient_whole" s_quotient_whole ["one", "other"] := fun _ _ _ _ _ _ us hl => match us, hl with | [_, _], _ => rfl
abbrev s_trimmed : Stmt := topS 36
theorem sc_trimmed : FnScope ["numbers", "length"] ["numbers"] (defScope s_trimmed) := ⟨rfl, rfl, rfl, by decide +kernel, rfl, by decide +kernel, by decide +kernel⟩
theorem pl_trimmed : Pl "trimmed" s_trimmed ["numbers"] := fun _ _ _ _ _ _ us hl => match us, hl with | [_], _ => rfl
abbrev s_is_poly : Stmt := topS 37
theorem sc_is_poly : FnScope ["value", "number"] ["value"] (defScope s_is_poly) := ⟨rfl, rfl, rfl, by decide +kernel, rfl, by decide +kernel, by decide +kernel⟩
theorem pl_is_poly : Pl "is_poly" s_is_poly ["value"] := fun _ _ _ _ _ _ us hl => match us, hl with | [_], _ => rfl
abbrev s_read_poly : Stmt := topS 38
theorem sc_read_poly : FnScope ["value", "part", "number"] ["value", "part"] (defScope s_read_poly) := ⟨rfl, rfl, rfl, by decide +kernel, rfl, by decide +kernel, by decide +kernel⟩
theorem pl_read_poly : Pl "read_poly" s_read_poly ["value", "part"] := fun _ _ _ _ _ _ us hl => match us, hl with | [_, _], _ => rfl
abbrev s_poly_of : Stmt := topS 39
theorem sc_poly_of : FnScope ["value"] ["value"] (defScope s_poly_of) := ⟨rfl, rfl, rfl, by decide +kernel, rfl, by decide +kernel, by decide +kernel⟩
theorem pl_poly_of : Pl "poly_of" s_poly_of ["value"] := fun _ _ _ _ _ _ us hl => match us, hl with | [_], _ => rfl
abbrev s_value_at : Stmt := topS 40
theorem sc_value_at : FnScope ["poly", "at", "numbers", "total", "number"] ["poly", "at"] (defScope s_value_at) := ⟨rfl, rfl, rfl, by decide +kernel, rfl, by decide +kernel, by decide +kernel⟩
theorem pl_value_at : Pl "value_at" s_value_at ["poly", "at"] := fun _ _ _ _ _ _ us hl => match us, hl with | [_, _], _ => rfl
abbrev s_poly_sum : Stmt := topS 41
theorem sc_poly_sum : FnScope ["one", "other", "first", "second", "total", "k", "number"] ["one", "other"] (defScope s_poly_sum) := ⟨rfl, rfl, rfl, by decide +kernel, rfl, by decide +kernel, by decide +kernel⟩
theorem pl_poly_sum : Pl "poly_sum" s_poly_sum ["one", "other"] := fun _ _ _ _ _ _ us hl => match us, hl with | [_, _], _ => rfl
abbrev s_poly_times : Stmt := topS 42
theorem sc_poly_times : FnScope ["one", "other", "first", "down", "second", "below", "product", "up"] ["one", "other"] (defScope s_poly_times) := ⟨rfl, rfl, rfl, by decide +kernel, rfl, by decide +kernel, by decide +kernel⟩
theorem pl_poly_times : Pl "poly_times" s_poly_times ["one", "other"] := fun _ _ _ _ _ _ us hl => match us, hl with | [_, _], _ => rfl
abbrev s_parted : Stmt := topS 43
theorem sc_parted : FnScope ["first", "second", "rest", "quotient", "shift", "share", "lower", "_", "k", "number"] ["first", "second"] (defScope s_parted) := ⟨rfl, rfl, rfl, by decide +kernel, rfl, by decide +kernel, by decide +kernel⟩
theorem pl_parted : Pl "parted" s_parted ["first", "second"] := fun _ _ _ _ _ _ us hl => match us, hl with | [_, _], _ => rfl
abbrev s_poly_parted : Stmt := topS 44
theorem sc_poly_parted : FnScope ["one", "other", "first", "second"] ["one", "other"] (defScope s_poly_parted) := ⟨rfl, rfl, rfl, by decide +kernel, rfl, by decide +kernel, by decide +kernel⟩
theorem pl_poly_parted : Pl "poly_parted" s_poly_parted ["one", "other"] := fun _ _ _ _ _ _ us hl => match us, hl with | [_, _], _ => rfl
abbrev s_slope_of : Stmt := topS 45
theorem sc_slope_of : FnScope ["poly", "numbers", "k", "number"] ["poly"] (defScope s_slope_of) := ⟨rfl, rfl, rfl, by decide +kernel, rfl, by decide +kernel, by decide +kernel⟩
theorem pl_slope_of : Pl "slope_of" s_slope_of ["poly"] := fun _ _ _ _ _ _ us hl => match us, hl with | [_], _ => rfl
abbrev s_read_points : Stmt := topS 46
theorem sc_read_points : FnScope ["points", "pairs", "point", "at", "value", "_"] ["points"] (defScope s_read_points) := ⟨rfl, rfl, rfl, by decide +kernel, rfl, by decide +kernel, by decide +kernel⟩
theorem pl_read_points : Pl "read_points" s_read_points ["points"] := fun _ _ _ _ _ _ us hl => match us, hl with | [_], _ => rfl
abbrev s_times_factor : Stmt := topS 47
theorem sc_times_factor : FnScope ["product", "at", "up", "down", "low", "high"] ["product", "at"] (defScope s_times_factor) := ⟨rfl, rfl, rfl, by decide +kernel, rfl, by decide +kernel, by decide +kernel⟩
theorem pl_times_factor : Pl "times_factor" s_times_factor ["product", "at"] := fun _ _ _ _ _ _ us hl => match us, hl with | [_, _], _ => rfl
abbrev s_without_factor : Stmt := topS 48
theorem sc_without_factor : FnScope ["product", "at", "up", "down", "quotient", "number", "high"] ["product", "at"] (defScope s_without_factor) := ⟨rfl, rfl, rfl, by decide +kernel, rfl, by decide +kernel, by decide +kernel⟩
theorem pl_without_factor : Pl "without_factor" s_without_factor ["product", "at"] := fun _ _ _ _ _ _ us hl => match us, hl with | [_, _], _ => rfl
abbrev s_share_at : Stmt := topS 49
theorem sc_share_at : FnScope ["pairs", "k", "up", "down", "top", "bottom", "other", "below", "_"] ["pairs", "k"] (defScope s_share_at) := ⟨rfl, rfl, rfl, by decide +kernel, rfl, by decide +kernel, by decide +kernel⟩
theorem pl_share_at : Pl "share_at" s_share_at ["pairs", "k"] := fun _ _ _ _ _ _ us hl => match us, hl with | [_, _], _ => rfl
abbrev s_poly_through : Stmt := topS 50
theorem sc_poly_through : FnScope ["points", "pairs", "product", "at", "_", "ups", "down", "parts", "total", "k", "up", "part"] ["points"] (defScope s_poly_through) := ⟨rfl, rfl, rfl, by decide +kernel, rfl, by decide +kernel, by decide +kernel⟩
theorem pl_poly_through : Pl "poly_through" s_poly_through ["points"] := fun _ _ _ _ _ _ us hl => match us, hl with | [_], _ => rfl
abbrev s_row_of : Stmt := topS 53
theorem sc_row_of : FnScope ["numbers", "row", "following", "times", "common", "rest", "number", "k"] ["numbers"] (defScope s_row_of) := ⟨rfl, rfl, rfl, by decide +kernel, rfl, by decide +kernel, by decide +kernel⟩
theorem pl_row_of : Pl "row_of" s_row_of ["numbers"] := fun _ _ _ _ _ _ us hl => match us, hl with | [_], _ => rfl
abbrev s_times_scale : Stmt := topS 54
theorem sc_times_scale : FnScope ["number", "scale", "up", "down", "common"] ["number", "scale"] (defScope s_times_scale) := ⟨rfl, rfl, rfl, by decide +kernel, rfl, by decide +kernel, by decide +kernel⟩
theorem pl_times_scale : Pl "times_scale" s_times_scale ["number", "scale"] := fun _ _ _ _ _ _ us hl => match us, hl with | [_, _], _ => rfl
abbrev s_rests_of : Stmt := topS 55
theorem sc_rests_of : FnScope ["poly", "ups", "down", "scales", "rests", "k", "numbers", "common", "times", "before", "number"] ["poly"] (defScope s_rests_of) := ⟨rfl, rfl, rfl, by decide +kernel, rfl, by decide +kernel, by decide +kernel⟩
theorem pl_rests_of : Pl "rests_of" s_rests_of ["poly"] := fun _ _ _ _ _ _ us hl => match us, hl with | [_], _ => rfl
abbrev s_counting_row : Stmt := topS 56
theorem sc_counting_row : FnScope ["numbers", "row", "rest", "_"] ["numbers"] (defScope s_counting_row) := ⟨rfl, rfl, rfl, by decide +kernel, rfl, by decide +kernel, by decide +kernel⟩
theorem pl_counting_row : Pl "counting_row" s_counting_row ["numbers"] := fun _ _ _ _ _ _ us hl => match us, hl with | [_], _ => rfl
abbrev s_changes_at : Stmt := topS 57
theorem sc_changes_at : FnScope ["row", "at", "values", "ups", "numbers", "number", "k"] ["row", "at"] (defScope s_changes_at) := ⟨rfl, rfl, rfl, by decide +kernel, rfl, by decide +kernel, by decide +kernel⟩
theorem pl_changes_at : Pl "changes_at" s_changes_at ["row", "at"] := fun _ _ _ _ _ _ us hl => match us, hl with | [_, _], _ => rfl
abbrev s_zeros_within : Stmt := topS 58
theorem sc_zeros_within : FnScope ["numbers", "low", "high", "row"] ["numbers", "low", "high"] (defScope s_zeros_within) := ⟨rfl, rfl, rfl, by decide +kernel, rfl, by decide +kernel, by decide +kernel⟩
theorem pl_zeros_within : Pl "zeros_within" s_zeros_within ["numbers", "low", "high"] := fun _ _ _ _ _ _ us hl => match us, hl with | [_, _, _], _ => rfl
abbrev s_first_span : Stmt := topS 59
theorem sc_first_span : FnScope ["numbers", "low", "high", "width", "row", "ahead", "begin", "end", "half"] ["numbers", "low", "high", "width"] (defScope s_first_span) := ⟨rfl, rfl, rfl, by decide +kernel, rfl, by decide +kernel, by decide +kernel⟩
theorem pl_first_span : Pl "first_span" s_first_span ["numbers", "low", "high", "width"] := fun _ _ _ _ _ _ us hl => match us, hl with | [_, _, _, _], _ => rfl
abbrev s_as_unit : Stmt := topS 60
theorem sc_as_unit : FnScope ["numbers", "low", "high", "begin", "end", "down"] ["numbers", "low", "high"] (defScope s_as_unit) := ⟨rfl, rfl, rfl, by decide +kernel, rfl, by decide +kernel, by decide +kernel⟩
theorem pl_as_unit : Pl "as_unit" s_as_unit ["numbers", "low", "high"] := fun _ _ _ _ _ _ us hl => match us, hl with | [_, _, _], _ => rfl
abbrev s_is_plainly_above : Stmt := topS 61
theorem sc_is_plainly_above : FnScope ["numbers"] ["numbers"] (defScope s_is_plainly_above) := ⟨rfl, rfl, rfl, by decide +kernel, rfl, by decide +kernel, by decide +kernel⟩
theorem pl_is_plainly_above : Pl "is_plainly_above" s_is_plainly_above ["numbers"] := fun _ _ _ _ _ _ us hl => match us, hl with | [_], _ => rfl
abbrev s_is_above_on : Stmt := topS 62
theorem sc_is_above_on : FnScope ["numbers", "low", "high", "waiting", "_", "stretch", "half"] ["numbers", "low", "high"] (defScope s_is_above_on) := ⟨rfl, rfl, rfl, by decide +kernel, rfl, by decide +kernel, by decide +kernel⟩
theorem pl_is_above_on : Pl "is_above_on" s_is_above_on ["numbers", "low", "high"] := fun _ _ _ _ _ _ us hl => match us, hl with | [_, _, _], _ => rfl
abbrev s_want_bounds : Stmt := topS 63
theorem sc_want_bounds : FnScope ["low", "high"] ["low", "high"] (defScope s_want_bounds) := ⟨rfl, rfl, rfl, by decide +kernel, rfl, by decide +kernel, by decide +kernel⟩
theorem pl_want_bounds : Pl "want_bounds" s_want_bounds ["low", "high"] := fun _ _ _ _ _ _ us hl => match us, hl with | [_, _], _ => rfl
abbrev s_want_stretch : Stmt := topS 64
theorem sc_want_stretch : FnScope ["low", "high"] ["low", "high"] (defScope s_want_stretch) := ⟨rfl, rfl, rfl, by decide +kernel, rfl, by decide +kernel, by decide +kernel⟩
theorem pl_want_stretch : Pl "want_stretch" s_want_stretch ["low", "high"] := fun _ _ _ _ _ _ us hl => match us, hl with | [_, _], _ => rfl
abbrev s_zeros_in : Stmt := topS 65
theorem sc_zeros_in : FnScope ["poly", "low", "high", "numbers", "_"] ["poly", "low", "high"] (defScope s_zeros_in) := ⟨rfl, rfl, rfl, by decide +kernel, rfl, by decide +kernel, by decide +kernel⟩
theorem pl_zeros_in : Pl "zeros_in" s_zeros_in ["poly", "low", "high"] := fun _ _ _ _ _ _ us hl => match us, hl with | [_, _, _], _ => rfl
abbrev s_first_zero : Stmt := topS 66
theorem sc_first_zero : FnScope ["poly", "low", "high", "width", "numbers", "_"] ["poly", "low", "high", "width"] (defScope s_first_zero) := ⟨rfl, rfl, rfl, by decide +kernel, rfl, by decide +kernel, by decide +kernel⟩
theorem pl_first_zero : Pl "first_zero" s_first_zero ["poly", "low", "high", "width"] := fun _ _ _ _ _ _ us hl => match us, hl with | [_, _, _, _], _ => rfl
abbrev s_is_above : Stmt := topS 67
theorem sc_is_above : FnScope ["poly", "low", "high", "numbers", "_"] ["poly", "low", "high"] (defScope s_is_above) := ⟨rfl, rfl, rfl, by decide +kernel, rfl, by decide +kernel, by decide +kernel⟩
theorem pl_is_above : Pl "is_above" s_is_above ["poly", "low", "high"] := fun _ _ _ _ _ _ us hl => match us, hl with | [_, _, _], _ => rfl
abbrev s__law_porter : Stmt := topS 69
theorem sc__law_porter : FnScope ["script", "cell"] ["script"] (defScope s__law_porter) := ⟨rfl, rfl, rfl, by decide +kernel, rfl, by decide +kernel, by decide +kernel⟩
theorem pl__law_porter : Pl "_law_porter" s__law_porter ["script"] := fun _ _ _ _ _ _ us hl => match us, hl with | [_], _ => rfl
abbrev s__law_gatehouse : Stmt := topS 70
theorem sc__law_gatehouse : FnScope ["porter", "many", "left", "turn", "cell", "mixed"] ["porter", "many"] (defScope s__law_gatehouse) := ⟨rfl, rfl, rfl, by decide +kernel, rfl, by decide +kernel, by decide +kernel⟩
theorem pl__law_gatehouse : Pl "_law_gatehouse" s__law_gatehouse ["porter", "many"] := fun _ _ _ _ _ _ us hl => match us, hl with | [_, _], _ => rfl
abbrev s__law_pick : Stmt := topS 71
theorem sc__law_pick : FnScope ["porter", "some"] ["porter", "some"] (defScope s__law_pick) := ⟨rfl, rfl, rfl, by decide +kernel, rfl, by decide +kernel, by decide +kernel⟩
theorem pl__law_pick : Pl "_law_pick" s__law_pick ["porter", "some"] := fun _ _ _ _ _ _ us hl => match us, hl with | [_, _], _ => rfl
abbrev s__law_heard : Stmt := topS 72
theorem sc__law_heard : FnScope ["ask", "caught", "error", "kinds", "words", "word", "is_so"] ["ask"] (defScope s__law_heard) := ⟨rfl, rfl, rfl, by decide +kernel, rfl, by decide +kernel, by decide +kernel⟩
theorem pl__law_heard : Pl "_law_heard" s__law_heard ["ask"] := fun _ _ _ _ _ _ us hl => match us, hl with | [_], _ => rfl
abbrev s__law_polys_right : Stmt := topS 73
theorem sc__law_polys_right : FnScope ["porter", "none", "odd", "heard", "due", "points", "alike", "at"] ["porter", "none", "odd"] (defScope s__law_polys_right) := ⟨rfl, rfl, rfl, by decide +kernel, rfl, by decide +kernel, by decide +kernel⟩
theorem pl__law_polys_right : Pl "_law_polys_right" s__law_polys_right ["porter", "none", "odd"] := fun _ _ _ _ _ _ us hl => match us, hl with | [_, _, _], _ => rfl
abbrev s__law_zeros_right : Stmt := topS 74
theorem sc__law_zeros_right : FnScope ["porter", "none", "odd", "wide", "low", "high", "zero", "heard", "due"] ["porter", "none", "odd"] (defScope s__law_zeros_right) := ⟨rfl, rfl, rfl, by decide +kernel, rfl, by decide +kernel, by decide +kernel⟩
theorem pl__law_zeros_right : Pl "_law_zeros_right" s__law_zeros_right ["porter", "none", "odd"] := fun _ _ _ _ _ _ us hl => match us, hl with | [_, _, _], _ => rfl
abbrev s_law : Stmt := topS 75
theorem sc_law : FnScope ["script", "porter", "turn", "none", "odd"] ["script"] (defScope s_law) := ⟨rfl, rfl, rfl, by decide +kernel, rfl, by decide +kernel, by decide +kernel⟩
theorem pl_law : Pl "law" s_law ["script"] := fun _ _ _ _ _ _ us hl => match us, hl with | [_], _ => rfl
def clsBody (s : Stmt) : List Stmt := match s with
  | .ClassDef _ _ _ b _ _ _ _ _ _ _ => b
  | _ => []
abbrev s_BadPoly : Stmt := (clsBody (topS 10)).getD 0 (.Pass ⟨0, 0, 0, 0⟩)
theorem sc_BadPoly : FnScope ["self", "part"] ["self", "part"] (defScope s_BadPoly) := ⟨rfl, rfl, rfl, by decide +kernel, rfl, by decide +kernel, by decide +kernel⟩
theorem pl_BadPoly : PlI "BadPoly.__init__" s_BadPoly ["self", "part"] := fun _ _ _ _ _ _ us hl => match us, hl with | [_, _], _ => rfl
theorem pk_BadPoly : PkI "BadPoly.__init__" s_BadPoly ["part"] := fun _ _ _ _ _ _ _ ws hl => match ws, hl with | [_], _ => rfl
abbrev s_BadNumber : Stmt := (clsBody (topS 9)).getD 0 (.Pass ⟨0, 0, 0, 0⟩)
theorem sc_BadNumber : FnScope ["self", "part"] ["self", "part"] (defScope s_BadNumber) := ⟨rfl, rfl, rfl, by decide +kernel, rfl, by decide +kernel, by decide +kernel⟩
theorem pl_BadNumber : PlI "BadNumber.__init__" s_BadNumber ["self", "part"] := fun _ _ _ _ _ _ us hl => match us, hl with | [_, _], _ => rfl
theorem pk_BadNumber : PkI "BadNumber.__init__" s_BadNumber ["part"] := fun _ _ _ _ _ _ _ ws hl => match ws, hl with | [_], _ => rfl
abbrev s_Misfit : Stmt := (clsBody (topS 11)).getD 0 (.Pass ⟨0, 0, 0, 0⟩)
theorem sc_Misfit : FnScope ["self", "part"] ["self", "part"] (defScope s_Misfit) := ⟨rfl, rfl, rfl, by decide +kernel, rfl, by decide +kernel, by decide +kernel⟩
theorem pl_Misfit : PlI "Misfit.__init__" s_Misfit ["self", "part"] := fun _ _ _ _ _ _ us hl => match us, hl with | [_, _], _ => rfl
theorem pk_Misfit : PkI "Misfit.__init__" s_Misfit ["part"] := fun _ _ _ _ _ _ _ ws hl => match ws, hl with | [_], _ => rfl
abbrev s_TooMany : Stmt := (clsBody (topS 12)).getD 0 (.Pass ⟨0, 0, 0, 0⟩)
theorem sc_TooMany : FnScope ["self", "what", "most"] ["self", "what", "most"] (defScope s_TooMany) := ⟨rfl, rfl, rfl, by decide +kernel, rfl, by decide +kernel, by decide +kernel⟩
theorem pl_TooMany : PlI "TooMany.__init__" s_TooMany ["self", "what", "most"] := fun _ _ _ _ _ _ us hl => match us, hl with | [_, _, _], _ => rfl
theorem pk_TooMany : PkI "TooMany.__init__" s_TooMany ["what", "most"] := fun _ _ _ _ _ _ _ ws hl => match ws, hl with | [_, _], _ => rfl
/-- the errors' classes -/
structure Errs (c : Cn) (CP CN CM CT F : Addr) : Prop where
  poly : Ed c "BadPoly" "BadPoly.__init__" s_BadPoly CP (.ref F :: veT) ["part"]
  num : Ed c "BadNumber" "BadNumber.__init__" s_BadNumber CN (.ref F :: veT) ["part"]
  mis : Ed c "Misfit" "Misfit.__init__" s_Misfit CM (.ref F :: veT) ["part"]
  tm : Ed c "TooMany" "TooMany.__init__" s_TooMany CT (.ref F :: veT) ["what", "most"]
  mg : c.mg "FlowError" = some (.ref F)
  cl : ClsAt c.K F veT
  n0_1 : CP ≠ CN
  n0_2 : CP ≠ CM
  n0_3 : CP ≠ CT
  n0_4 : CP ≠ F
  n1_2 : CN ≠ CM
  n1_3 : CN ≠ CT
  n1_4 : CN ≠ F
  n2_3 : CM ≠ CT
  n2_4 : CM ≠ F
  n3_4 : CT ≠ F
structure Tx (c : Cn) : Prop where
  n_abs : c.mg "abs" = none
  n_all : c.mg "all" = none
  n_bool : c.mg "bool" = none
  n_enumerate : c.mg "enumerate" = none
  n_int : c.mg "int" = none
  n_isinstance : c.mg "isinstance" = none
  n_len : c.mg "len" = none
  n_list : c.mg "list" = none
  n_max : c.mg "max" = none
  n_range : c.mg "range" = none
  n_reversed : c.mg "reversed" = none
  n_set : c.mg "set" = none
  n_sum : c.mg "sum" = none
  n_tuple : c.mg "tuple" = none
  n_zip : c.mg "zip" = none
  d_is_integer : De c "is_integer" s_is_integer
  d_is_within : De c "is_within" s_is_within
  d_is_list : De c "is_list" s_is_list
  d_is_fraction : De c "is_fraction" s_is_fraction
  d_is_place : De c "is_place" s_is_place
  d_reduced : De c "reduced" s_reduced
  d_read_fraction : De c "read_fraction" s_read_fraction
  d_over_one_down : De c "over_one_down" s_over_one_down
  d_fraction_of : De c "fraction_of" s_fraction_of
  d_added : De c "added" s_added
  d_taken : De c "taken" s_taken
  d_multiplied : De c "multiplied" s_multiplied
  d_divided : De c "divided" s_divided
  d_sign_of : De c "sign_of" s_sign_of
  d_cut : De c "cut" s_cut
  d_times_whole : De c "times_whole" s_times_whole
  d_powers_of : De c "powers_of" s_powers_of
  d_scaled : De c "scaled" s_scaled
  d_shifted : De c "shifted" s_shifted
  d_value_whole : De c "value_whole" s_value_whole
  d_content_of : De c "content_of" s_content_of
  d_rest_whole : De c "rest_whole" s_rest_whole
  d_quotient_whole : De c "quotient_whole" s_quotient_whole
  d_trimmed : De c "trimmed" s_trimmed
  d_is_poly : De c "is_poly" s_is_poly
  d_read_poly : De c "read_poly" s_read_poly
  d_poly_of : De c "poly_of" s_poly_of
  d_value_at : De c "value_at" s_value_at
  d_poly_sum : De c "poly_sum" s_poly_sum
  d_poly_times : De c "poly_times" s_poly_times
  d_parted : De c "parted" s_parted
  d_poly_parted : De c "poly_parted" s_poly_parted
  d_slope_of : De c "slope_of" s_slope_of
  d_read_points : De c "read_points" s_read_points
  d_times_factor : De c "times_factor" s_times_factor
  d_without_factor : De c "without_factor" s_without_factor
  d_share_at : De c "share_at" s_share_at
  d_poly_through : De c "poly_through" s_poly_through
  d_row_of : De c "row_of" s_row_of
  d_times_scale : De c "times_scale" s_times_scale
  d_rests_of : De c "rests_of" s_rests_of
  d_counting_row : De c "counting_row" s_counting_row
  d_changes_at : De c "changes_at" s_changes_at
  d_zeros_within : De c "zeros_within" s_zeros_within
  d_first_span : De c "first_span" s_first_span
  d_as_unit : De c "as_unit" s_as_unit
  d_is_plainly_above : De c "is_plainly_above" s_is_plainly_above
  d_is_above_on : De c "is_above_on" s_is_above_on
  d_want_bounds : De c "want_bounds" s_want_bounds
  d_want_stretch : De c "want_stretch" s_want_stretch
  d_zeros_in : De c "zeros_in" s_zeros_in
  d_first_zero : De c "first_zero" s_first_zero
  d_is_above : De c "is_above" s_is_above
  d__law_porter : De c "_law_porter" s__law_porter
  d__law_gatehouse : De c "_law_gatehouse" s__law_gatehouse
  d__law_pick : De c "_law_pick" s__law_pick
  d__law_heard : De c "_law_heard" s__law_heard
  d__law_polys_right : De c "_law_polys_right" s__law_polys_right
  d__law_zeros_right : De c "_law_zeros_right" s__law_zeros_right
  d_law : De c "law" s_law
  c_MOST_NUMBERS : ∃ t, c.mg "MOST_NUMBERS" = some (.int 80 t)
  c_MOST_POINTS : ∃ t, c.mg "MOST_POINTS" = some (.int 40 t)
  m_lcm : c.mg "lcm" = some (.builtin "math.lcm")
  m_gcd : c.mg "gcd" = some (.builtin "math.gcd")
  x_err : ∃ CP CN CM CT F, Errs c CP CN CM CT F
theorem ec_BadPoly (c : Cn) {C F : Addr} (D : Ed c "BadPoly" "BadPoly.__init__" s_BadPoly C (.ref F :: veT) ["part"]) : Ec c "BadPoly" C ["part"] := by
  obtain ⟨P, w, K, mg, base⟩ := c
  refine D.ec (by decide) sc_BadPoly pl_BadPoly pk_BadPoly (fun f cdv A outer s H vs Q E h => ?_)
  have S := sc_BadPoly
  exact ⟨_, pss_one (ps_ost (pv 0) (pv 1)), init1_rd h⟩
theorem ec_BadNumber (c : Cn) {C F : Addr} (D : Ed c "BadNumber" "BadNumber.__init__" s_BadNumber C (.ref F :: veT) ["part"]) : Ec c "BadNumber" C ["part"] := by
  obtain ⟨P, w, K, mg, base⟩ := c
  refine D.ec (by decide) sc_BadNumber pl_BadNumber pk_BadNumber (fun f cdv A outer s H vs Q E h => ?_)
  have S := sc_BadNumber
  exact ⟨_, pss_one (ps_ost (pv 0) (pv 1)), init1_rd h⟩
theorem ec_Misfit (c : Cn) {C F : Addr} (D : Ed c "Misfit" "Misfit.__init__" s_Misfit C (.ref F :: veT) ["part"]) : Ec c "Misfit" C ["part"] := by
  obtain ⟨P, w, K, mg, base⟩ := c
  refine D.ec (by decide) sc_Misfit pl_Misfit pk_Misfit (fun f cdv A outer s H vs Q E h => ?_)
  have S := sc_Misfit
  exact ⟨_, pss_one (ps_ost (pv 0) (pv 1)), init1_rd h⟩
theorem ec_TooMany (c : Cn) {C F : Addr} (D : Ed c "TooMany" "TooMany.__init__" s_TooMany C (.ref F :: veT) ["what", "most"]) : Ec c "TooMany" C ["what", "most"] := by
  obtain ⟨P, w, K, mg, base⟩ := c
  refine D.ec (by decide) sc_TooMany pl_TooMany pk_TooMany (fun f cdv A outer s H vs Q E h => ?_)
  have S := sc_TooMany
  exact ⟨_, pss_cons (ps_ost (pv 0) (pv 1)) (pss_one (ps_ost (pv 0) (pv 2))), init2_rd h⟩
theorem ok_cut (c : Cn) (T : Tx c) : Cl c 1 "cut" s_cut ["numbers"] (fun _ _ _ _ => False) := De.none (N := ["numbers", "length"]) 0 T.d_cut sc_cut
theorem ok_times_whole (c : Cn) (T : Tx c) : Cl c 1 "times_whole" s_times_whole ["one", "other"] (fun _ _ _ _ => False) := De.none (N := ["one", "other", "product", "k", "number", "i", "more", "_"]) 0 T.d_times_whole sc_times_whole
theorem ok_powers_of (c : Cn) (T : Tx c) : Cl c 1 "powers_of" s_powers_of ["number", "many"] (fun _ _ _ _ => False) := De.none (N := ["number", "many", "powers"]) 0 T.d_powers_of sc_powers_of
theorem ok_scaled (c : Cn) (T : Tx c) : Cl c 2 "scaled" s_scaled ["numbers", "up", "down"] (fun _ _ _ _ => False) := De.none (N := ["numbers", "up", "down", "many", "below", "number", "power", "rest"]) 1 T.d_scaled sc_scaled
theorem ok_shifted (c : Cn) (T : Tx c) : Cl c 1 "shifted" s_shifted ["numbers", "by"] (fun _ _ _ _ => False) := De.none (N := ["numbers", "by", "told", "k", "i"]) 0 T.d_shifted sc_shifted
theorem ok_value_whole (c : Cn) (T : Tx c) : Cl c 3 "value_whole" s_value_whole ["numbers", "at"] (fun _ _ _ _ => False) := De.none (N := ["numbers", "at", "up", "down"]) 2 T.d_value_whole sc_value_whole
theorem ok_content_of (c : Cn) (T : Tx c) : Cl c 1 "content_of" s_content_of ["numbers"] (fun _ _ _ _ => False) := De.none (N := ["numbers", "common", "number"]) 0 T.d_content_of sc_content_of
theorem ok_rest_whole (c : Cn) (T : Tx c) : Cl c 2 "rest_whole" s_rest_whole ["one", "other"] (fun _ _ _ _ => False) := De.none (N := ["one", "other", "rest", "times", "head", "lead", "below", "_", "number", "less"]) 1 T.d_rest_whole sc_rest_whole
theorem ok_quotient_whole (c : Cn) (T : Tx c) : Cl c 1 "quotient_whole" s_quotient_whole ["one", "other"] (fun _ _ _ _ => False) := De.none (N := ["one", "other", "rest", "quotient", "share", "shift", "k", "number"]) 0 T.d_quotient_whole sc_quotient_whole
theorem ok_parted (c : Cn) (T : Tx c) : Cl c 6 "parted" s_parted ["first", "second"] (fun _ _ _ _ => False) := De.none (N := ["first", "second", "rest", "quotient", "shift", "share", "lower", "_", "k", "number"]) 5 T.d_parted sc_parted
theorem ok_times_factor (c : Cn) (T : Tx c) : Cl c 1 "times_factor" s_times_factor ["product", "at"] (fun _ _ _ _ => False) := De.none (N := ["product", "at", "up", "down", "low", "high"]) 0 T.d_times_factor sc_times_factor
theorem ok_without_factor (c : Cn) (T : Tx c) : Cl c 1 "without_factor" s_without_factor ["product", "at"] (fun _ _ _ _ => False) := De.none (N := ["product", "at", "up", "down", "quotient", "number", "high"]) 0 T.d_without_factor sc_without_factor
theorem ok_share_at (c : Cn) (T : Tx c) : Cl c 6 "share_at" s_share_at ["pairs", "k"] (fun _ _ _ _ => False) := De.none (N := ["pairs", "k", "up", "down", "top", "bottom", "other", "below", "_"]) 5 T.d_share_at sc_share_at
theorem ok_row_of (c : Cn) (T : Tx c) : Cl c 3 "row_of" s_row_of ["numbers"] (fun _ _ _ _ => False) := De.none (N := ["numbers", "row", "following", "times", "common", "rest", "number", "k"]) 2 T.d_row_of sc_row_of
theorem ok_times_scale (c : Cn) (T : Tx c) : Cl c 1 "times_scale" s_times_scale ["number", "scale"] (fun _ _ _ _ => False) := De.none (N := ["number", "scale", "up", "down", "common"]) 0 T.d_times_scale sc_times_scale
theorem ok_counting_row (c : Cn) (T : Tx c) : Cl c 4 "counting_row" s_counting_row ["numbers"] (fun _ _ _ _ => False) := De.none (N := ["numbers", "row", "rest", "_"]) 3 T.d_counting_row sc_counting_row
theorem ok_changes_at (c : Cn) (T : Tx c) : Cl c 4 "changes_at" s_changes_at ["row", "at"] (fun _ _ _ _ => False) := De.none (N := ["row", "at", "values", "ups", "numbers", "number", "k"]) 3 T.d_changes_at sc_changes_at
theorem ok_zeros_within (c : Cn) (T : Tx c) : Cl c 5 "zeros_within" s_zeros_within ["numbers", "low", "high"] (fun _ _ _ _ => False) := De.none (N := ["numbers", "low", "high", "row"]) 4 T.d_zeros_within sc_zeros_within
theorem ok_first_span (c : Cn) (T : Tx c) : Cl c 6 "first_span" s_first_span ["numbers", "low", "high", "width"] (fun _ _ _ _ => False) := De.none (N := ["numbers", "low", "high", "width", "row", "ahead", "begin", "end", "half"]) 5 T.d_first_span sc_first_span
theorem ok_as_unit (c : Cn) (T : Tx c) : Cl c 3 "as_unit" s_as_unit ["numbers", "low", "high"] (fun _ _ _ _ => False) := De.none (N := ["numbers", "low", "high", "begin", "end", "down"]) 2 T.d_as_unit sc_as_unit
theorem ok_is_plainly_above (c : Cn) (T : Tx c) : Cl c 2 "is_plainly_above" s_is_plainly_above ["numbers"] (fun _ _ _ _ => False) := De.none (N := ["numbers"]) 1 T.d_is_plainly_above sc_is_plainly_above
theorem ok_is_above_on (c : Cn) (T : Tx c) : Cl c 6 "is_above_on" s_is_above_on ["numbers", "low", "high"] (fun _ _ _ _ => False) := De.none (N := ["numbers", "low", "high", "waiting", "_", "stretch", "half"]) 5 T.d_is_above_on sc_is_above_on

def sp_iswth (K : PySem.W.Frag) : Sp := fun vs H Q _ => ∃ q v d l m, vs = [v, bdV l, bdV m] ∧ Dq q K H v d ∧ Q (.bl (wthD d l m)) H
def sp_islist (K : PySem.W.Frag) : Sp := fun vs H Q _ => ∃ q v d, vs = [v] ∧ Dq q K H v d ∧ Q (.bl (isSeqD d)) H
def sp_isfr (K : PySem.W.Frag) : Sp := fun vs H Q _ => ∃ q v d, vs = [v] ∧ Dq q K H v d ∧ Q (.bl (isFrD d)) H
def sp_ispl (K : PySem.W.Frag) : Sp := fun vs H Q _ => ∃ q v d, vs = [v] ∧ Dq q K H v d ∧ Q (.bl (isPlD d)) H
def sp_isint (K : PySem.W.Frag) : Sp := fun vs H Q _ => ∃ q v d, vs = [v] ∧ Dq q K H v d ∧ Q (.bl (isIntD d)) H
theorem ok_is_integer (c : Cn) (T : Tx c) : Cl c 1 "is_integer" s_is_integer ["value"] (sp_isint c.K) := by
  obtain ⟨P, w, K, mg, base⟩ := c
  refine De.cl (N := ["value"]) T.d_is_integer sc_is_integer (fun vs H Q E h => ?_) (fun f0 cdv A outer s H vs Q E hA hr h => ?_)
  · obtain ⟨q, v, d, rfl, _⟩ := h; rfl
  · have S := sc_is_integer
    obtain ⟨q, v, d, rfl, hd, k⟩ := h
    refine ⟨_, (pss_one (ps_ret (pe_and (pe_callB call_isi (by rfl) T.n_isinstance (show bootBuiltins "isinstance" = some (.builtin "isinstance") by decide +kernel) (pa_cons (pv 0) (pa_cons (pe_bltn (v := .ty "int") (by rfl) T.n_int (show bootBuiltins "int" = some (.type "int") by decide +kernel) rfl) pa_nil))) (pe_one (pe_not (pe_callB call_isi (by rfl) T.n_isinstance (show bootBuiltins "isinstance" = some (.builtin "isinstance") by decide +kernel) (pa_cons (pv 0) (pa_cons (pe_bltn (v := .ty "bool") (by rfl) T.n_bool (show bootBuiltins "bool" = some (.type "bool") by decide +kernel) rfl) pa_nil)))))))), ?_⟩
    walk_at "mf"
    refine g_isiI hd ?_
    walk_at "mf"
    refine g_ite (fun h => ?_) (fun h => ?_)
    · walk_at "mf"
      refine g_isiB hd ?_
      walk_at "mf"
      rw [show isIntD d = !isBoolD d by cases d <;> first | rfl | cases h] at k
      exact k
    · rw [show isIntD d = false by cases d <;> first | rfl | cases h] at k
      exact k
theorem ok_is_within (c : Cn) (T : Tx c) : Cl c 2 "is_within" s_is_within ["value", "least", "most"] (sp_iswth c.K) := by
  obtain ⟨P, w, K, mg, base⟩ := c
  have C_is_integer := ok_is_integer _ T
  refine De.cl (N := ["value", "least", "most"]) T.d_is_within sc_is_within (fun vs H Q E h => ?_) (fun f0 cdv A outer s H vs Q E hA hr h => ?_)
  · obtain ⟨q, v, d, l, m, rfl, _⟩ := h; rfl
  · have S := sc_is_within
    obtain ⟨q, v, d, l, m, rfl, hd, k⟩ := h
    refine ⟨_, (pss_cons (ps_if (pt_not (pt_val (pe_f C_is_integer hA hr (by decide) pl_is_integer (by rfl) (pa_cons (pv 0) pa_nil)))) (pss_one (ps_ret pe_bl)) pss_nil)
      (pss_one (ps_ret (pe_and (pe_or (pe_cmpR op_isNU (pv 1) pe_non (nomark _)) (pe_one (pe_cmpR op_ge (pv 0) (pv 1) (nomark _)))) (pe_one (pe_or (pe_cmpR op_isNU (pv 2) pe_non (nomark _)) (pe_one (pe_cmpR op_le (pv 0) (pv 2) (nomark _))))))))), ?_⟩
    walk_at "mf"
    refine ⟨q, v, d, rfl, hd, ?_⟩
    walk_at "mf"
    refine g_ite (fun h => ?_) (fun h => ?_)
    · have e : isIntD d = false := by simpa using h
      walk_at "mf"
      rw [show wthD d l m = false by unfold wthD; rw [e]; rfl] at k
      exact k
    · have e : isIntD d = true := by simpa using h
      obtain ⟨rfl, hv⟩ := hd.int_of e
      rw [show wthD d l m = (loB l (valD d) && hiB m (valD d)) by unfold wthD; rw [e]; rfl] at k
      cases l with
      | none => cases m with
        | none =>
          dsimp only [bdV]
          walk_at "mf"
          exact k
        | some m =>
          dsimp only [bdV]
          walk_at "mf"
          exact k
      | some l => cases m with
        | none =>
          dsimp only [bdV]
          walk_at "mf"
          refine g_ite (fun h1 => ?_) (fun h1 => ?_)
          · walk_at "mf"
            rw [show loB (some l) (valD d) = true from h1] at k
            exact k
          · rw [show loB (some l) (valD d) = false from h1] at k
            exact k
        | some m =>
          dsimp only [bdV]
          walk_at "mf"
          refine g_ite (fun h1 => ?_) (fun h1 => ?_)
          · walk_at "mf"
            rw [show loB (some l) (valD d) = true from h1] at k
            exact k
          · rw [show loB (some l) (valD d) = false from h1] at k
            exact k
theorem ok_is_list (c : Cn) (T : Tx c) : Cl c 1 "is_list" s_is_list ["value"] (sp_islist c.K) := by
  obtain ⟨P, w, K, mg, base⟩ := c
  refine De.cl (N := ["value"]) T.d_is_list sc_is_list (fun vs H Q E h => ?_) (fun f0 cdv A outer s H vs Q E hA hr h => ?_)
  · obtain ⟨q, v, d, rfl, _⟩ := h; rfl
  · have S := sc_is_list
    obtain ⟨q, v, d, rfl, hd, k⟩ := h
    refine ⟨_, (pss_one (ps_ret (pe_isSeq (by rfl) T.n_isinstance (by rfl) T.n_list (by rfl) T.n_tuple (pv 0)))), ?_⟩
    walk_at "mf"
    exact g_seqQ hd k
theorem ok_is_fraction (c : Cn) (T : Tx c) : Cl c 3 "is_fraction" s_is_fraction ["value"] (sp_isfr c.K) := by
  obtain ⟨P, w, K, mg, base⟩ := c
  have C_is_integer := ok_is_integer _ T
  have C_is_list := ok_is_list _ T
  have C_is_within := ok_is_within _ T
  refine De.cl (N := ["value"]) T.d_is_fraction sc_is_fraction (fun vs H Q E h => ?_) (fun f0 cdv A outer s H vs Q E hA hr h => ?_)
  · obtain ⟨q, v, d, rfl, _⟩ := h; rfl
  · have S := sc_is_fraction
    obtain ⟨q, v, d, rfl, hd, k⟩ := h
    refine ⟨_, (pss_cons (ps_if (pt_val (pe_f C_is_integer hA hr (by decide) pl_is_integer (by rfl) (pa_cons (pv 0) pa_nil))) (pss_one (ps_ret pe_bl)) pss_nil)
      (pss_cons (ps_if (PW.pt (pw_or (pt_not (pt_val (pe_f C_is_list hA hr (by decide) pl_is_list (by rfl) (pa_cons (pv 0) pa_nil)))) (pw_or1 (pt_cmpR (op_neU hr.units) (pe_callB call_lenU (by rfl) T.n_len PySem.boot_len (pa_cons (pv 0) pa_nil)) pe_int (nomark _))))) (pss_one (ps_ret pe_bl)) pss_nil)
      (pss_one (ps_ret (pe_and (pe_f C_is_integer hA hr (by decide) pl_is_integer (by rfl) (pa_cons (pe_ix ix_seq (pv 0) pe_int (fun _ _ => rfl)) pa_nil)) (pe_one (pe_f C_is_within hA hr (by decide) pl_is_within (by rfl) (pa_cons (pe_ix ix_seq (pv 0) pe_int (fun _ _ => rfl)) (pa_cons pe_int (pa_cons pe_non pa_nil)))))))))), ?_⟩
    walk_at "mf"
    refine ⟨q, v, d, rfl, hd, ?_⟩
    walk_at "mf"
    refine g_ite (fun h1 => ?_) (fun h1 => ?_)
    · walk_at "mf"
      rw [frD_int h1] at k
      exact k
    · walk_at "mf"
      refine ⟨q, v, d, rfl, hd, ?_⟩
      walk_at "mf"
      refine g_ite (fun h2 => ?_) (fun h2 => ?_)
      · walk_at "mf"
        rw [frD_no h1 (by simpa using h2)] at k
        exact k
      · obtain ⟨a, xs, ds, rfl, na, hs, hall, ed⟩ := hd.seq (by simpa using h2)
        walk_at "mf"
        refine g_len hs ?_
        walk_at "mf"
        refine g_ite (fun h3 => ?_) (fun h3 => ?_)
        · walk_at "mf"
          rw [(frD_two ed (by rw [← hall.len]; simp at h3; omega)).1] at k
          exact k
        · obtain ⟨x, y, dx, dy, rfl, rfl, hx, hy⟩ := two_of hall (by simp at h3; omega)
          rw [(frD_of ed).1] at k
          walk_at "mf"
          refine g_ix hs rfl ?_
          walk_at "mf"
          refine ⟨q, x, dx, rfl, hx, ?_⟩
          walk_at "mf"
          refine g_ite (fun h4 => ?_) (fun h4 => ?_)
          · walk_at "mf"
            refine g_ix hs rfl ?_
            walk_at "mf"
            refine ⟨q, y, dy, some 1, none, rfl, hy, ?_⟩
            rw [h4, Bool.true_and, posD_eq] at k
            exact k
          · rw [h4] at k
            exact k
theorem ok_is_place (c : Cn) (T : Tx c) : Cl c 4 "is_place" s_is_place ["value"] (sp_ispl c.K) := by
  obtain ⟨P, w, K, mg, base⟩ := c
  have C_is_fraction := ok_is_fraction _ T
  have C_is_list := ok_is_list _ T
  refine De.cl (N := ["value"]) T.d_is_place sc_is_place (fun vs H Q E h => ?_) (fun f0 cdv A outer s H vs Q E hA hr h => ?_)
  · obtain ⟨q, v, d, rfl, _⟩ := h; rfl
  · have S := sc_is_place
    obtain ⟨q, v, d, rfl, hd, k⟩ := h
    refine ⟨_, (pss_cons (ps_if (PW.pt (pw_or (pt_not (pt_val (pe_f C_is_list hA hr (by decide) pl_is_list (by rfl) (pa_cons (pv 0) pa_nil)))) (pw_or1 (pt_cmpR (op_neU hr.units) (pe_callB call_lenU (by rfl) T.n_len PySem.boot_len (pa_cons (pv 0) pa_nil)) pe_int (nomark _))))) (pss_one (ps_ret pe_bl)) pss_nil)
      (pss_one (ps_ret (pe_and (pe_f C_is_fraction hA hr (by decide) pl_is_fraction (by rfl) (pa_cons (pe_ix ix_seq (pv 0) pe_int (fun _ _ => rfl)) pa_nil)) (pe_one (pe_f C_is_fraction hA hr (by decide) pl_is_fraction (by rfl) (pa_cons (pe_ix ix_seq (pv 0) pe_int (fun _ _ => rfl)) pa_nil))))))), ?_⟩
    walk_at "mf"
    refine ⟨q, v, d, rfl, hd, ?_⟩
    walk_at "mf"
    refine g_ite (fun h2 => ?_) (fun h2 => ?_)
    · walk_at "mf"
      rw [plD_no (by simpa using h2)] at k
      exact k
    · obtain ⟨a, xs, ds, rfl, na, hs, hall, ed⟩ := hd.seq (by simpa using h2)
      walk_at "mf"
      refine g_len hs ?_
      walk_at "mf"
      refine g_ite (fun h3 => ?_) (fun h3 => ?_)
      · walk_at "mf"
        rw [(frD_two ed (by rw [← hall.len]; simp at h3; omega)).2] at k
        exact k
      · obtain ⟨x, y, dx, dy, rfl, rfl, hx, hy⟩ := two_of hall (by simp at h3; omega)
        rw [(frD_of ed).2] at k
        walk_at "mf"
        refine g_ix hs rfl ?_
        walk_at "mf"
        refine ⟨q, x, dx, rfl, hx, ?_⟩
        walk_at "mf"
        refine g_ite (fun h4 => ?_) (fun h4 => ?_)
        · walk_at "mf"
          refine g_ix hs rfl ?_
          walk_at "mf"
          refine ⟨q, y, dy, rfl, hy, ?_⟩
          rw [h4] at k
          exact k
        · rw [h4] at k
          exact k
end Mf
namespace Mf
open PySem PySem.Spec PyProof.Rows L2
local macro_rules | `(tactic| walk_at "mf1") => `(tactic| first
  | ((with_reducible apply g_var); exact rfl)
  | with_reducible first
    | refine g_c ?_ | refine g_op ?_ | refine g_un ?_ | refine g_cb ?_ | refine g_cl ?_ | refine g_clX ?_ | refine g_mkR ?_ | refine g_clk ?_ | refine g_nil ?_ | refine g_cons ?_
    | refine g_tB ?_ | refine g_test ?_ | refine g_bl ?_ | refine g_and ?_ | refine g_or ?_ | refine g_not ?_ | refine g_andV ?_ | refine g_orV ?_ | refine g_notV ?_
    | refine g_if ?_ | refine g_ifS ?_ | refine g_seq ?_ | refine g_next ?_ | refine g_ret ?_ | refine g_drop ?_ | refine g_asg ?_ | refine g_name ?_ | refine g_sub ?_
    | refine g_int ?_ | refine g_intB ?_ | refine g_abs ?_ | refine g_I0 ?_ | refine g_addI ?_ | refine g_U ?_ | refine g_isNn ?_ | refine g_isNi ?_ | refine g_notN ?_ | refine g_notT1 ?_ | refine g_notT2 ?_ | refine g_notT3 ?_ | refine g_notT4 ?_ | refine g_notTb ?_ | refine g_notTi ?_ | refine g_eqI ?_ | refine g_neI ?_ | refine g_neSs ?_ | refine g_neS ?_ | refine g_eqS ?_
    | refine g_iteT ?_ | refine g_iteF ?_ | refine g_iteNT ?_ | refine g_iteNF ?_ | refine g_lst ?_ | refine g_tup ?_ | refine g_seqP ?_ | refine g_sl ?_ | refine g_noPart ?_ | refine g_part ?_ | refine g_yes ?_ | refine g_thenT ?_ | refine g_consG ?_ | refine g_nilG ?_ | refine g_ii ?_ | refine g_par ?_ | refine g_par3 ?_ | refine g_vv ?_ | refine g_vvv ?_ | refine g_reprB ?_ | refine g_lcL ?_ | refine g_lcR ?_
  | ((with_reducible refine g_mod ?_ ?_); (first | omega | decide))
  | ((with_reducible refine g_div ?_ ?_ ?_); (first | omega | decide); (first | assumption | decide))
  | ((with_reducible refine g_mulL ?_ ?_ ?_); (first | omega | decide); (first | omega | decide))
  | ((with_reducible refine g_mulR ?_ ?_ ?_); (first | omega | decide); (first | omega | decide))
  | ((with_reducible refine g_pow ?_ ?_ ?_ ?_); decide; decide; (first | omega | decide))
  | dsimp only)
local macro_rules | `(tactic| walk_at "mf1s") => `(tactic| first
  | ((with_reducible apply g_var); exact rfl)
  | with_reducible first
    | refine g_c ?_ | refine g_op ?_ | refine g_un ?_ | refine g_cb ?_ | refine g_cl ?_ | refine g_clX ?_ | refine g_mkR ?_ | refine g_clk ?_ | refine g_nil ?_ | refine g_cons ?_
    | refine g_tB ?_ | refine g_test ?_ | refine g_bl ?_ | refine g_and ?_ | refine g_or ?_ | refine g_not ?_ | refine g_andV ?_ | refine g_orV ?_ | refine g_notV ?_
    | refine g_if ?_ | refine g_ifS ?_ | refine g_next ?_ | refine g_ret ?_ | refine g_drop ?_ | refine g_asg ?_ | refine g_name ?_ | refine g_sub ?_
    | refine g_int ?_ | refine g_intB ?_ | refine g_abs ?_ | refine g_I0 ?_ | refine g_addI ?_ | refine g_U ?_ | refine g_isNn ?_ | refine g_isNi ?_ | refine g_notN ?_ | refine g_notT1 ?_ | refine g_notT2 ?_ | refine g_notT3 ?_ | refine g_notT4 ?_ | refine g_notTb ?_ | refine g_notTi ?_ | refine g_eqI ?_ | refine g_neI ?_ | refine g_neSs ?_ | refine g_neS ?_ | refine g_eqS ?_
    | refine g_iteT ?_ | refine g_iteF ?_ | refine g_iteNT ?_ | refine g_iteNF ?_ | refine g_lst ?_ | refine g_tup ?_ | refine g_seqP ?_ | refine g_sl ?_ | refine g_noPart ?_ | refine g_part ?_ | refine g_yes ?_ | refine g_thenT ?_ | refine g_consG ?_ | refine g_nilG ?_ | refine g_ii ?_ | refine g_par ?_ | refine g_par3 ?_ | refine g_vv ?_ | refine g_vvv ?_ | refine g_reprB ?_ | refine g_lcL ?_ | refine g_lcR ?_
  | ((with_reducible refine g_mod ?_ ?_); (first | omega | decide))
  | ((with_reducible refine g_div ?_ ?_ ?_); (first | omega | decide); (first | assumption | decide))
  | ((with_reducible refine g_mulL ?_ ?_ ?_); (first | omega | decide); (first | omega | decide))
  | ((with_reducible refine g_mulR ?_ ?_ ?_); (first | omega | decide); (first | omega | decide))
  | ((with_reducible refine g_pow ?_ ?_ ?_ ?_); decide; decide; (first | omega | decide))
  | dsimp only)
local macro_rules | `(tactic| walk_at "mfs") => `(tactic| repeat walk_at "mf1s")
local macro_rules | `(tactic| walk_at "mf") => `(tactic| repeat walk_at "mf1")
local macro_rules | `(tactic| walk_at "ed") => `(tactic| repeat (first
  | with_reducible first
    | exact eds_nil | apply eds_cons | exact ed_int | exact ed_bl | exact ed_non | apply ed_neg
  | ((with_reducible apply ed_str); decide)
  | ((with_reducible apply ed_var); (exact rfl); (first | assumption | exact Dq.int _))
  | ((with_reducible apply ed_dict0); assumption)
  | ((with_reducible apply ed_dict2); assumption)
  | ((with_reducible apply ed_tup); assumption)
  | ((with_reducible apply ed_lst); assumption)
  | (with_reducible apply ed_pow)
  | (with_reducible apply ed_mul)
  | assumption
  | (exact Dq.int _)
  | (exact ⟨by decide, by decide, by decide⟩)
  | (show List.length _ ≤ 1000; simp only [List.length_cons, List.length_nil]; decide)))
theorem ok__law_porter (c : Cn) (T : Tx c) : Cl c 1 "_law_porter" s__law_porter ["script"] (sp_quay c.K) := by
  obtain ⟨P, w, K, mg, base⟩ := c
  refine De.cl (N := ["script", "cell"]) T.d__law_porter sc__law_porter (fun vs H Q E h => ?_) (fun f0 cdv A outer s H vs Q E hA hr h => ?_)
  · obtain ⟨a, ns, rfl, _⟩ := h; rfl
  · have S := sc__law_porter
    obtain ⟨a, ns, rfl, hS, hlen, k⟩ := h
    refine ⟨_, (pss_one (ps_ret (pe_lst (pa_cons (pe_lc (own := [("cell", 1)]) (g := gName 1) (tt := tYes) rfl S.nd (pi_list (pe_slice sl_list (pv 0) po_none (po_some pe_int))) (blkOk_by (N := ["script", "cell"]) (sc := defScope s__law_porter) (by decide +kernel)) (fun _ _ _ _ _ => pg_name (i := 1) S.nd rfl (Or.inl rfl)) (fun _ _ _ _ _ => pts_nil) (fun _ _ _ _ _ => (pe_callTy call_intU (by rfl) T.n_int PyProof.Rows.boot_int (pa_cons (pv 1) pa_nil)))) (pa_cons pe_int (pa_cons pe_int pa_nil)))))), ?_⟩
    walk_at "mf"
    refine g_slL hS fun p H1 hp s1 e1 => ?_
    obtain ⟨ms, em, lm⟩ := cut_ints ns none (some 60)
    walk_at "mf"
    rw [em] at e1
    refine ⟨p, rfl, ⟨_, seqU e1⟩, ?_⟩
    refine lcgo_list (xs := ms.map V.int) (fun D i H' => Same H1 H' ∧ H' D = some (.lst ((ms.take i).map V.int))) (fun x => rfl) (fun D hD => ⟨same_new hD, upd_same⟩) (fun D i H' _ h => seqU (h.1 _ _ e1)) (fun D i x H' hD ex h => ?_) (fun D H' hD h => ?_)
    · obtain ⟨h1, h2⟩ := h
      rw [List.getElem?_map] at ex
      obtain ⟨z, ez, rfl⟩ := Option.map_eq_some_iff.mp ex
      walk_at "mf"
      have hi := (List.getElem?_eq_some_iff.mp ez).1
      refine ⟨_, h2, ?_, ?_, ?_⟩
      · rw [List.length_map, List.length_take]
        exact small1000 (by omega)
      · intro b o e
        rw [upd_ne (ne_of_none e hD)]
        exact h1 b o e
      · rw [upd_same, List.take_add_one, ez, List.map_append]
        rfl
    · obtain ⟨h1, h2⟩ := h
      rw [List.length_map, List.take_length] at h2
      walk_at "mf"
      refine g_newL (by show 3 ≤ sizeLine; decide) fun q H2 hq s2 e2 => ?_
      have hDq : D ≠ q := ne_of_none h2 hq
      refine k q H2 ((s1.trans h1).trans s2) ((s1.trans h1).free hq) ⟨D, ms, 0, e2, s2 _ _ h2, hDq, by omega, by omega, by omega⟩
theorem ok__law_gatehouse (c : Cn) (T : Tx c) : Cl c 1 "_law_gatehouse" s__law_gatehouse ["porter", "many"] (sp_moor c.K) := by
  obtain ⟨P, w, K, mg, base⟩ := c
  refine De.cl (N := ["porter", "many", "left", "turn", "cell", "mixed"]) T.d__law_gatehouse sc__law_gatehouse (fun vs H Q E h => ?_) (fun f0 cdv A outer s H vs Q E hA hr h => ?_)
  · obtain ⟨q, t, n, rfl, _⟩ := h; rfl
  · have S := sc__law_gatehouse
    obtain ⟨q, t, n, rfl, hq, ht, hn, hn9, k⟩ := h
    refine ⟨_, (pss_cons (ps_if (pt_cmpR op_gt (pe_ix ix_seq (pv 0) pe_int (fun _ _ => rfl)) pe_int (nomark _)) (pss_cons (ps_set (i := 2) S.nd rfl (by first | exact .inl rfl | exact .inr rfl) (pe_callTy call_intU (by rfl) T.n_int PyProof.Rows.boot_int (pa_cons (pe_ix ix_seq (pv 0) pe_int (fun _ _ => rfl)) pa_nil)))
      (pss_cons (ps_asg (pe_op op_fdivW (pv 2) (pv 1)) (pg_sub (pv 0) pe_int set_list))
      (pss_one (ps_ret (pe_op op_mod (pe_callTy call_intU (by rfl) T.n_int PyProof.Rows.boot_int (pa_cons (pv 2) pa_nil)) (pv 1)))))) pss_nil)
      (pss_cons (ps_set (i := 3) S.nd rfl (by first | exact .inl rfl | exact .inr rfl) (pe_ix ix_seq (pv 0) pe_int (fun _ _ => rfl)))
      (pss_cons (ps_asg (pe_op op_addU (pv 3) pe_int) (pg_sub (pv 0) pe_int set_list))
      (pss_cons (ps_set (i := 4) S.nd rfl (by first | exact .inl rfl | exact .inr rfl) (pe_op op_addU (pe_op op_mulU pe_int (pv 3)) pe_int))
      (pss_cons (ps_if (pt_cmpR (op_neU hr.units) (pe_ix ix_seq (pv 0) pe_int (fun _ _ => rfl)) (pe_lst pa_nil) (nomark _)) (pss_one (ps_set (i := 4) S.nd rfl (by first | exact .inl rfl | exact .inr rfl) (pe_ix ix_seq (pe_ix ix_seq (pv 0) pe_int (fun _ _ => rfl)) (pe_op op_mod (pe_callTy call_intU (by rfl) T.n_int PyProof.Rows.boot_int (pa_cons (pv 3) pa_nil)) (pe_callB call_lenU (by rfl) T.n_len PySem.boot_len (pa_cons (pe_ix ix_seq (pv 0) pe_int (fun _ _ => rfl)) pa_nil))) (fun _ _ => rfl)))) pss_nil)
      (pss_cons (ps_if (PW.pt (pw_and (pt_cmpR op_lt (pv 3) (pe_callB call_lenU (by rfl) T.n_len PySem.boot_len (pa_cons (pe_ix ix_seq (pv 0) pe_int (fun _ _ => rfl)) pa_nil)) (nomark _)) (pw_and1 (pt_cmpR op_ge (pe_callB call_absU (by rfl) T.n_abs (show bootBuiltins "abs" = some (.builtin "abs") by decide +kernel) (pa_cons (pv 4) pa_nil)) (pe_op op_pow pe_int pe_int) (nomark _))))) (pss_cons (ps_set (i := 2) S.nd rfl (by first | exact .inl rfl | exact .inr rfl) (pe_op op_addU (pe_op op_mulU pe_int (pe_op op_sub (pe_callB call_absU (by rfl) T.n_abs (show bootBuiltins "abs" = some (.builtin "abs") by decide +kernel) (pa_cons (pe_callTy call_intU (by rfl) T.n_int PyProof.Rows.boot_int (pa_cons (pv 4) pa_nil)) pa_nil)) (pe_op op_pow pe_int pe_int))) (pe_callTy call_intU (by rfl) T.n_int PyProof.Rows.boot_int (pa_cons (pe_cmpR op_lt (pv 4) pe_int (nomark _)) pa_nil))))
      (pss_cons (ps_asg (pe_op op_fdivW (pv 2) (pv 1)) (pg_sub (pv 0) pe_int set_list))
      (pss_one (ps_ret (pe_op op_mod (pe_callTy call_intU (by rfl) T.n_int PyProof.Rows.boot_int (pa_cons (pv 2) pa_nil)) (pv 1)))))) pss_nil)
      (pss_cons (ps_set (i := 5) S.nd rfl (by first | exact .inl rfl | exact .inr rfl) (pe_op op_mod (pe_callTy call_intU (by rfl) T.n_int PyProof.Rows.boot_int (pa_cons (pe_op op_pow (pe_op op_addU (pe_op op_addU (pe_op op_mod (pe_callTy call_intU (by rfl) T.n_int PyProof.Rows.boot_int (pa_cons (pv 4) pa_nil)) pe_int) (pe_op op_mulU pe_int (pv 3))) pe_int) pe_int) pa_nil)) pe_int))
      (pss_cons (ps_set (i := 5) S.nd rfl (by first | exact .inl rfl | exact .inr rfl) (pe_op op_mod (pe_callTy call_intU (by rfl) T.n_int PyProof.Rows.boot_int (pa_cons (pe_op op_pow (pe_op op_addU (pe_op op_addU (pe_op op_mulU (pv 5) (pe_op op_addU (pe_op op_mulU pe_int (pv 3)) pe_int)) (pe_op op_mulU (pe_op op_mulU pe_int (pv 3)) (pv 3))) pe_int) pe_int) pa_nil)) pe_int))
      (pss_one (ps_ret (pe_op op_mod (pe_callTy call_intU (by rfl) T.n_int PyProof.Rows.boot_int (pa_cons (pe_op op_fdivW (pv 5) pe_int) pa_nil)) (pv 1)))))))))))), ?_⟩
    obtain ⟨c, ns, r, eq, hc, ncq, hns, hr0, ht0⟩ := hq
    walk_at "mf"
    refine g_ix (.inl (seqU eq)) (v := .int r) rfl ?_
    walk_at "mf"
    refine g_ite (fun h => ?_) (fun h => ?_)
    · walk_at "mf"
      refine g_ix (.inl (seqU eq)) (v := .int r) rfl ?_
      walk_at "mf"
      refine g_setL eq (j := 2) rfl ?_
      walk_at "mf"
      exact k t _ _ (upd_x eq) ⟨c, ns, _, upd_same, (upd_x eq).kept _ _ ncq hc, ncq, hns, Int.ediv_nonneg hr0 (by omega), ht0⟩ (by omega) (by omega) (Int.emod_nonneg _ (by omega)) (Int.emod_lt_of_pos _ hn)
    · walk_at "mf"
      refine g_ix (.inl (seqU eq)) (v := .int t) rfl ?_
      walk_at "mf"
      refine g_setL eq (j := 1) rfl ?_
      have eq1 : (upd H q (.lst [.ref c, .int (t + 1), .int r])) q = some (.lst [.ref c, .int (t + 1), .int r]) := upd_same
      have hc1 : (upd H q (.lst [.ref c, .int (t + 1), .int r])) c = some (.lst (ns.map V.int)) := (upd_x eq).kept _ _ ncq hc
      have sx1 : SameX q H (upd H q (.lst [.ref c, .int (t + 1), .int r])) := upd_x eq
      have es : [V.ref c, .int t, .int r].set 1 (.int (t + 1)) = [.ref c, .int (t + 1), .int r] := rfl
      rw [es]
      generalize upd H q (.lst [.ref c, .int (t + 1), .int r]) = Hb at *
      walk_at "mf"
      refine g_ix (.inl (seqU eq1)) (v := .ref c) rfl ?_
      walk_at "mf"
      refine g_newL (by show 0 ≤ sizeLine; decide) fun p H2 hp s2 e2 => ?_
      have eq2 := s2 _ _ eq1
      have hc2 := s2 _ _ hc1
      have sx := sx1.trans (Same.x s2)
      walk_at "mf"
      refine g_neNil (seqU hc2) (seqU e2) ?_
      walk_at "mf"
      refine g_ite (fun h2 => ?_) (fun h2 => ?_)
      · walk_at "mf"
        refine g_ix (.inl (seqU eq2)) (v := .ref c) rfl ?_
        walk_at "mf"
        refine g_ix (.inl (seqU eq2)) (v := .ref c) rfl ?_
        walk_at "mf"
        refine g_len (.inl (seqU hc2)) ?_
        have hpos : 0 < ((ns.map V.int).length : Int) := by
          cases ns with
          | nil => cases h2
          | cons z l => rw [List.map_cons, List.length_cons]; omega
        walk_at "mf"
        obtain ⟨z, ez⟩ : ∃ z, atI (ns.map V.int) (t % ((ns.map V.int).length : Int)) = some (.int z) := by
          have b1 := Int.emod_nonneg t (Int.ne_of_gt hpos)
          have b2 := Int.emod_lt_of_pos t hpos
          have b3 : (t % ((ns.map V.int).length : Int)).toNat < ns.length := by
            rw [List.length_map] at b1 b2 ⊢
            omega
          refine ⟨ns[(t % ((ns.map V.int).length : Int)).toNat], ?_⟩
          refine at_of (j := (t % ((ns.map V.int).length : Int)).toNat) (by omega) ?_
          rw [List.getElem?_map, List.getElem?_eq_getElem b3]
          rfl
        refine g_ix (.inl (seqU hc2)) ez ?_
        walk_at "mf"
        refine g_ix (.inl (seqU eq2)) (v := .ref c) rfl ?_
        walk_at "mf"
        refine g_len (.inl (seqU hc2)) ?_
        walk_at "mf"
        refine g_ite (fun h3 => ?_) (fun h3 => ?_)
        · walk_at "mf"
          refine g_ite (fun h4 => ?_) (fun h4 => ?_)
          · have h5 := of_decide_eq_true h4
            rw [show (10 : Int) ^ (18 : Int).toNat = 1000000000000000000 by decide] at h5
            walk_at "mf"
            refine g_setL eq2 (j := 2) rfl ?_
            walk_at "mf"
            rw [show (10 : Int) ^ (18 : Int).toNat = 1000000000000000000 by decide]
            exact k (t + 1) _ _ (sx.trans (upd_x eq2)) ⟨c, ns, _, upd_same, (upd_x eq2).kept _ _ ncq hc2, ncq, hns, Int.ediv_nonneg (by split <;> omega) (by omega), by omega⟩ (by omega) (by omega) (Int.emod_nonneg _ (by omega)) (Int.emod_lt_of_pos _ hn)
          · walk_at "mf"
            walk_at "mf"
            refine g_pow (by decide) (by decide) (stir_bd (Int.emod_nonneg _ (by decide)) (Int.lt_of_lt_of_le (Int.emod_lt_of_pos _ (by decide)) (by decide)) ht0 ht (by decide) (by decide) (by decide) (by decide) (by decide) (by decide)) ?_
            walk_at "mf"
            exact k (t + 1) _ _ sx ⟨c, ns, r, eq2, hc2, ncq, hns, hr0, by omega⟩ (by omega) (by omega) (Int.emod_nonneg _ (by omega)) (Int.emod_lt_of_pos _ hn)
        · walk_at "mf"
          walk_at "mf"
          refine g_pow (by decide) (by decide) (stir_bd (Int.emod_nonneg _ (by decide)) (Int.lt_of_lt_of_le (Int.emod_lt_of_pos _ (by decide)) (by decide)) ht0 ht (by decide) (by decide) (by decide) (by decide) (by decide) (by decide)) ?_
          walk_at "mf"
          exact k (t + 1) _ _ sx ⟨c, ns, r, eq2, hc2, ncq, hns, hr0, by omega⟩ (by omega) (by omega) (Int.emod_nonneg _ (by omega)) (Int.emod_lt_of_pos _ hn)
      · walk_at "mf"
        walk_at "mf"
        refine g_ix (.inl (seqU eq2)) (v := .ref c) rfl ?_
        walk_at "mf"
        refine g_len (.inl (seqU hc2)) ?_
        walk_at "mf"
        refine g_ite (fun h3 => ?_) (fun h3 => ?_)
        · walk_at "mf"
          refine g_ite (fun h4 => ?_) (fun h4 => ?_)
          · have h5 := of_decide_eq_true h4
            rw [show (10 : Int) ^ (18 : Int).toNat = 1000000000000000000 by decide] at h5
            walk_at "mf"
            refine g_setL eq2 (j := 2) rfl ?_
            walk_at "mf"
            rw [show (10 : Int) ^ (18 : Int).toNat = 1000000000000000000 by decide]
            exact k (t + 1) _ _ (sx.trans (upd_x eq2)) ⟨c, ns, _, upd_same, (upd_x eq2).kept _ _ ncq hc2, ncq, hns, Int.ediv_nonneg (by split <;> omega) (by omega), by omega⟩ (by omega) (by omega) (Int.emod_nonneg _ (by omega)) (Int.emod_lt_of_pos _ hn)
          · walk_at "mf"
            walk_at "mf"
            refine g_pow (by decide) (by decide) (stir_bd (Int.emod_nonneg _ (by decide)) (Int.lt_of_lt_of_le (Int.emod_lt_of_pos _ (by decide)) (by decide)) ht0 ht (by decide) (by decide) (by decide) (by decide) (by decide) (by decide)) ?_
            walk_at "mf"
            exact k (t + 1) _ _ sx ⟨c, ns, r, eq2, hc2, ncq, hns, hr0, by omega⟩ (by omega) (by omega) (Int.emod_nonneg _ (by omega)) (Int.emod_lt_of_pos _ hn)
        · walk_at "mf"
          walk_at "mf"
          refine g_pow (by decide) (by decide) (stir_bd (Int.emod_nonneg _ (by decide)) (Int.lt_of_lt_of_le (Int.emod_lt_of_pos _ (by decide)) (by decide)) ht0 ht (by decide) (by decide) (by decide) (by decide) (by decide) (by decide)) ?_
          walk_at "mf"
          exact k (t + 1) _ _ sx ⟨c, ns, r, eq2, hc2, ncq, hns, hr0, by omega⟩ (by omega) (by omega) (Int.emod_nonneg _ (by omega)) (Int.emod_lt_of_pos _ hn)
theorem ok__law_pick (c : Cn) (T : Tx c) : Cl c 2 "_law_pick" s__law_pick ["porter", "some"] (sp_pick c.K) := by
  obtain ⟨P, w, K, mg, base⟩ := c
  have C__law_gatehouse := ok__law_gatehouse _ T
  refine De.cl (N := ["porter", "some"]) T.d__law_pick sc__law_pick (fun vs H Q E h => ?_) (fun f0 cdv A outer s H vs Q E hA hr h => ?_)
  · obtain ⟨q, a, t, xs, rfl, _⟩ := h; rfl
  · have S := sc__law_pick
    obtain ⟨q, a, t, xs, rfl, hq, ht, na, hs, hne, hl, k⟩ := h
    refine ⟨_, (pss_one (ps_ret (pe_ix ix_seq (pv 1) (pe_f C__law_gatehouse hA hr (by decide) pl__law_gatehouse (by rfl) (pa_cons (pv 0) (pa_cons (pe_callB call_lenU (by rfl) T.n_len PySem.boot_len (pa_cons (pv 1) pa_nil)) pa_nil))) (fun _ _ => rfl)))), ?_⟩
    have hp : 0 < xs.length := by
      cases xs with
      | nil => exact absurd rfl hne
      | cons z r => exact Nat.succ_pos _
    walk_at "mf"
    refine g_len hs ?_
    walk_at "mf"
    refine ⟨q, t, _, rfl, hq, ht, by omega, ?_, fun t' H' i sx hq' h1 h2 h3 h4 => ?_⟩
    · rw [Int.natAbs_natCast]
      exact Nat.lt_of_lt_of_le ((Nat.log2_lt (by omega)).mpr (show xs.length < 2 ^ 10 by omega)) (by decide)
    · walk_at "mf"
      have hi : i.toNat < xs.length := by omega
      refine g_ix (hs.go sx na) (at_of (j := i.toNat) (by omega) (List.getElem?_eq_getElem hi)) ?_
      exact k t' H' _ sx hq' h1 h2 (List.getElem_mem hi)
end Mf
namespace Mf
open PySem PySem.Spec PyProof.Rows L2
local macro_rules | `(tactic| walk_at "mf1") => `(tactic| first
  | ((with_reducible apply g_var); exact rfl)
  | with_reducible first
    | refine g_c ?_ | refine g_op ?_ | refine g_un ?_ | refine g_cb ?_ | refine g_cl ?_ | refine g_clX ?_ | refine g_mkR ?_ | refine g_clk ?_ | refine g_nil ?_ | refine g_cons ?_
    | refine g_tB ?_ | refine g_test ?_ | refine g_bl ?_ | refine g_and ?_ | refine g_or ?_ | refine g_not ?_ | refine g_andV ?_ | refine g_orV ?_ | refine g_notV ?_
    | refine g_if ?_ | refine g_ifS ?_ | refine g_seq ?_ | refine g_next ?_ | refine g_ret ?_ | refine g_drop ?_ | refine g_asg ?_ | refine g_name ?_ | refine g_sub ?_
    | refine g_int ?_ | refine g_intB ?_ | refine g_abs ?_ | refine g_I0 ?_ | refine g_addI ?_ | refine g_U ?_ | refine g_isNn ?_ | refine g_isNi ?_ | refine g_notN ?_ | refine g_notT1 ?_ | refine g_notT2 ?_ | refine g_notT3 ?_ | refine g_notT4 ?_ | refine g_notTb ?_ | refine g_notTi ?_ | refine g_eqI ?_ | refine g_neI ?_ | refine g_neSs ?_ | refine g_neS ?_ | refine g_eqS ?_
    | refine g_iteT ?_ | refine g_iteF ?_ | refine g_iteNT ?_ | refine g_iteNF ?_ | refine g_lst ?_ | refine g_tup ?_ | refine g_seqP ?_ | refine g_sl ?_ | refine g_noPart ?_ | refine g_part ?_ | refine g_yes ?_ | refine g_thenT ?_ | refine g_consG ?_ | refine g_nilG ?_ | refine g_ii ?_ | refine g_par ?_ | refine g_par3 ?_ | refine g_vv ?_ | refine g_vvv ?_ | refine g_reprB ?_ | refine g_lcL ?_ | refine g_lcR ?_
  | ((with_reducible refine g_mod ?_ ?_); (first | omega | decide))
  | ((with_reducible refine g_div ?_ ?_ ?_); (first | omega | decide); (first | assumption | decide))
  | ((with_reducible refine g_mulL ?_ ?_ ?_); (first | omega | decide); (first | omega | decide))
  | ((with_reducible refine g_mulR ?_ ?_ ?_); (first | omega | decide); (first | omega | decide))
  | ((with_reducible refine g_pow ?_ ?_ ?_ ?_); decide; decide; (first | omega | decide))
  | dsimp only)
local macro_rules | `(tactic| walk_at "mf1s") => `(tactic| first
  | ((with_reducible apply g_var); exact rfl)
  | with_reducible first
    | refine g_c ?_ | refine g_op ?_ | refine g_un ?_ | refine g_cb ?_ | refine g_cl ?_ | refine g_clX ?_ | refine g_mkR ?_ | refine g_clk ?_ | refine g_nil ?_ | refine g_cons ?_
    | refine g_tB ?_ | refine g_test ?_ | refine g_bl ?_ | refine g_and ?_ | refine g_or ?_ | refine g_not ?_ | refine g_andV ?_ | refine g_orV ?_ | refine g_notV ?_
    | refine g_if ?_ | refine g_ifS ?_ | refine g_next ?_ | refine g_ret ?_ | refine g_drop ?_ | refine g_asg ?_ | refine g_name ?_ | refine g_sub ?_
    | refine g_int ?_ | refine g_intB ?_ | refine g_abs ?_ | refine g_I0 ?_ | refine g_addI ?_ | refine g_U ?_ | refine g_isNn ?_ | refine g_isNi ?_ | refine g_notN ?_ | refine g_notT1 ?_ | refine g_notT2 ?_ | refine g_notT3 ?_ | refine g_notT4 ?_ | refine g_notTb ?_ | refine g_notTi ?_ | refine g_eqI ?_ | refine g_neI ?_ | refine g_neSs ?_ | refine g_neS ?_ | refine g_eqS ?_
    | refine g_iteT ?_ | refine g_iteF ?_ | refine g_iteNT ?_ | refine g_iteNF ?_ | refine g_lst ?_ | refine g_tup ?_ | refine g_seqP ?_ | refine g_sl ?_ | refine g_noPart ?_ | refine g_part ?_ | refine g_yes ?_ | refine g_thenT ?_ | refine g_consG ?_ | refine g_nilG ?_ | refine g_ii ?_ | refine g_par ?_ | refine g_par3 ?_ | refine g_vv ?_ | refine g_vvv ?_ | refine g_reprB ?_ | refine g_lcL ?_ | refine g_lcR ?_
  | ((with_reducible refine g_mod ?_ ?_); (first | omega | decide))
  | ((with_reducible refine g_div ?_ ?_ ?_); (first | omega | decide); (first | assumption | decide))
  | ((with_reducible refine g_mulL ?_ ?_ ?_); (first | omega | decide); (first | omega | decide))
  | ((with_reducible refine g_mulR ?_ ?_ ?_); (first | omega | decide); (first | omega | decide))
  | ((with_reducible refine g_pow ?_ ?_ ?_ ?_); decide; decide; (first | omega | decide))
  | dsimp only)
local macro_rules | `(tactic| walk_at "mfs") => `(tactic| repeat walk_at "mf1s")
local macro_rules | `(tactic| walk_at "mf") => `(tactic| repeat walk_at "mf1")
local macro_rules | `(tactic| walk_at "ed") => `(tactic| repeat (first
  | with_reducible first
    | exact eds_nil | apply eds_cons | exact ed_int | exact ed_bl | exact ed_non | apply ed_neg
  | ((with_reducible apply ed_str); decide)
  | ((with_reducible apply ed_var); (exact rfl); (first | assumption | exact Dq.int _))
  | ((with_reducible apply ed_dict0); assumption)
  | ((with_reducible apply ed_dict2); assumption)
  | ((with_reducible apply ed_tup); assumption)
  | ((with_reducible apply ed_lst); assumption)
  | (with_reducible apply ed_pow)
  | (with_reducible apply ed_mul)
  | assumption
  | (exact Dq.int _)
  | (exact ⟨by decide, by decide, by decide⟩)
  | (show List.length _ ≤ 1000; simp only [List.length_cons, List.length_nil]; decide)))
theorem ok_reduced (c : Cn) (T : Tx c) : Cl c 1 "reduced" s_reduced ["up", "down"] (sp_reduced c.K) := by
  obtain ⟨P, w, K, mg, base⟩ := c
  refine De.cl (N := ["up", "down", "common"]) T.d_reduced sc_reduced (fun vs H Q E h => ?_) (fun f0 cdv A outer s H vs Q E hA hr h => ?_)
  · obtain ⟨u, d, rfl, _⟩ := h; rfl
  · have S := sc_reduced
    obtain ⟨u, d, rfl, hd, hb, k⟩ := h
    refine ⟨_, (pss_cons (ps_set (i := 2) S.nd rfl (by first | exact .inl rfl | exact .inr rfl) (pe_callBfun cr_gcd (by rfl) T.m_gcd (pa_cons (pv 0) (pa_cons (pv 1) pa_nil))))
      (pss_one (ps_ret (pe_tup (pa_cons (pe_op op_fdivW (pv 0) (pv 2)) (pa_cons (pe_op op_fdivW (pv 1) (pv 2)) pa_nil)))))), ?_⟩
    walk_at "mf"
    have hpos : 0 < ((Nat.gcd u.natAbs d.natAbs : Nat) : Int) := by
      have := Nat.gcd_pos_of_pos_right u.natAbs (show 0 < d.natAbs by omega)
      omega
    have hlog : ((Nat.gcd u.natAbs d.natAbs : Nat) : Int).natAbs.log2 < 9000 := by
      refine Bt.log (n := 8000) ?_ (by decide)
      show ((Nat.gcd u.natAbs d.natAbs : Nat) : Int).natAbs < _
      rw [Int.natAbs_natCast]
      exact Nat.lt_of_le_of_lt (Nat.gcd_le_right _ (by omega)) hb
    refine g_gcd ?_
    walk_at "mf"
    refine g_newT (by show 2 ≤ sizeLine; decide) fun p H1 hp s1 e1 => ?_
    rw [red_num u d hd, red_den u d hd] at e1
    exact k p H1 s1 hp e1
theorem ok_read_fraction (c : Cn) (T : Tx c) : Cl c 4 "read_fraction" s_read_fraction ["value", "part"] (sp_read c.K) := by
  obtain ⟨P, w, K, mg, base⟩ := c
  have C_is_fraction := ok_is_fraction _ T
  have C_is_integer := ok_is_integer _ T
  have C_reduced := ok_reduced _ T
  refine De.cl (N := ["value", "part", "up", "down"]) T.d_read_fraction sc_read_fraction (fun vs H Q E h => ?_) (fun f0 cdv A outer s H vs Q E hA hr h => ?_)
  · obtain ⟨q, v, part, r, n, rfl, _⟩ := h; rfl
  · have S := sc_read_fraction
    obtain ⟨q, v, part, r, n, rfl, hf, hn, k⟩ := h
    refine ⟨_, (pss_cons (ps_if (pt_not (pt_val (pe_f C_is_fraction hA hr (by decide) pl_is_fraction (by rfl) (pa_cons (pv 0) pa_nil)))) (pss_one ps_never) pss_nil)
      (pss_cons (ps_if (pt_val (pe_f C_is_integer hA hr (by decide) pl_is_integer (by rfl) (pa_cons (pv 0) pa_nil))) (pss_one (ps_ret (pe_f C_reduced hA hr (by decide) pl_reduced (by rfl) (pa_cons (pv 0) (pa_cons pe_int pa_nil))))) pss_nil)
      (pss_cons (ps_asg (pv 0) (pg_or (pg_tup rfl (pgs_cons (pg_name (i := 2) S.nd rfl (by first | exact .inl rfl | exact .inr rfl)) (pgs_cons (pg_name (i := 3) S.nd rfl (by first | exact .inl rfl | exact .inr rfl)) pgs_nil))) (pg_unl rfl (pgs_cons (pg_name (i := 2) S.nd rfl (by first | exact .inl rfl | exact .inr rfl)) (pgs_cons (pg_name (i := 3) S.nd rfl (by first | exact .inl rfl | exact .inr rfl)) pgs_nil)))))
      (pss_one (ps_ret (pe_f C_reduced hA hr (by decide) pl_reduced (by rfl) (pa_cons (pv 2) (pa_cons (pv 3) pa_nil)))))))), ?_⟩
    rcases hf.cases with ⟨i, rfl, hd, rfl, hb⟩ | ⟨a, d, x, y, rfl, na, hd, e1, e2, hs, hy, rfl, hbx, hby⟩
    · walk_at "mf"
      refine ⟨q, _, _, rfl, hd, ?_⟩
      walk_at "mf"
      refine g_iteF ?_
      walk_at "mf"
      refine ⟨q, _, _, rfl, hd, ?_⟩
      walk_at "mf"
      refine g_iteT ?_
      walk_at "mf"
      exact ⟨i, 1, rfl, by decide, Bt.mono (m := 1) (by show 1 < 2 ^ 1; decide) (by decide), k⟩
    · walk_at "mf"
      refine ⟨q, _, _, rfl, hd, ?_⟩
      rw [e2]
      walk_at "mf"
      refine ⟨q, _, _, rfl, hd, ?_⟩
      rw [e1]
      walk_at "mf"
      refine g_seqG hs rfl ?_
      walk_at "mf"
      exact ⟨x, y, rfl, hy, hby.mono hn, k⟩
theorem ok_fraction_of (c : Cn) (T : Tx c) : Cl c 5 "fraction_of" s_fraction_of ["value"] (sp_frof c.K) := by
  obtain ⟨P, w, K, mg, base⟩ := c
  have C_read_fraction := ok_read_fraction _ T
  refine De.cl (N := ["value"]) T.d_fraction_of sc_fraction_of (fun vs H Q E h => ?_) (fun f0 cdv A outer s H vs Q E hA hr h => ?_)
  · obtain ⟨q, v, r, n, rfl, _⟩ := h; rfl
  · have S := sc_fraction_of
    obtain ⟨q, v, r, n, rfl, hf, hn, k⟩ := h
    refine ⟨_, (pss_one (ps_ret (pe_f C_read_fraction hA hr (by decide) pl_read_fraction (by rfl) (pa_cons (pv 0) (pa_cons pe_str pa_nil))))), ?_⟩
    walk_at "mf"
    exact ⟨q, v, _, r, n, rfl, hf, hn, k⟩
theorem ok_added (c : Cn) (T : Tx c) : Cl c 5 "added" s_added ["one", "other"] (sp_bin (· + ·) c.K) := by
  obtain ⟨P, w, K, mg, base⟩ := c
  have C_read_fraction := ok_read_fraction _ T
  have C_reduced := ok_reduced _ T
  refine De.cl (N := ["one", "other", "up", "down", "more", "below"]) T.d_added sc_added (fun vs H Q E h => ?_) (fun f0 cdv A outer s H vs Q E hA hr h => ?_)
  · obtain ⟨q, v1, v2, r1, r2, m, n, rfl, _⟩ := h; rfl
  · have S := sc_added
    obtain ⟨q, v1, v2, r1, r2, m, n, rfl, h1, h2, hmn, k⟩ := h
    refine ⟨_, (pss_cons (ps_asg (pe_f C_read_fraction hA hr (by decide) pl_read_fraction (by rfl) (pa_cons (pv 0) (pa_cons pe_str pa_nil))) (pg_tup rfl (pgs_cons (pg_name (i := 2) S.nd rfl (by first | exact .inl rfl | exact .inr rfl)) (pgs_cons (pg_name (i := 3) S.nd rfl (by first | exact .inl rfl | exact .inr rfl)) pgs_nil))))
      (pss_cons (ps_asg (pe_f C_read_fraction hA hr (by decide) pl_read_fraction (by rfl) (pa_cons (pv 1) (pa_cons pe_str pa_nil))) (pg_tup rfl (pgs_cons (pg_name (i := 4) S.nd rfl (by first | exact .inl rfl | exact .inr rfl)) (pgs_cons (pg_name (i := 5) S.nd rfl (by first | exact .inl rfl | exact .inr rfl)) pgs_nil))))
      (pss_one (ps_ret (pe_f C_reduced hA hr (by decide) pl_reduced (by rfl) (pa_cons (pe_op op_addU (pe_op op_mulU (pv 2) (pv 5)) (pe_op op_mulU (pv 4) (pv 3))) (pa_cons (pe_op op_mulU (pv 3) (pv 5)) pa_nil))))))), ?_⟩
    walk_at "mf"
    refine ⟨q, v1, _, r1, m, rfl, h1, by omega, fun p1 H1 s1 n1 e1 => ?_⟩
    refine g_tupG (tupU e1) rfl ?_
    walk_at "mf"
    refine ⟨q, v2, _, r2, n, rfl, h2.go (Same.x s1), by omega, fun p2 H2 s2 n2 e2 => ?_⟩
    refine g_tupG (tupU e2) rfl ?_
    have b1 := h1.rb
    have b2 := h2.rb
    have c1 := b1.1.cm b2.2 (by omega)
    have c2 := b2.1.cm b1.2 (by omega)
    have c3 := b1.2.cm b2.2 (by omega)
    have c4 := b1.1.cm b2.1 (by omega)
    walk_at "mf"
    refine g_mulU c1 ?_
    walk_at "mf"
    refine g_mulU c2 ?_
    walk_at "mf"
    refine g_mulU c3 ?_
    walk_at "mf"
    refine ⟨_, _, rfl, dd1 r1 r2, (b1.2.mul b2.2).mono (by omega), ?_⟩
    rw [add_div]
    exact (RetT.same k s1).same s2
theorem ok_taken (c : Cn) (T : Tx c) : Cl c 5 "taken" s_taken ["one", "other"] (sp_bin (· - ·) c.K) := by
  obtain ⟨P, w, K, mg, base⟩ := c
  have C_read_fraction := ok_read_fraction _ T
  have C_reduced := ok_reduced _ T
  refine De.cl (N := ["one", "other", "up", "down", "less", "below"]) T.d_taken sc_taken (fun vs H Q E h => ?_) (fun f0 cdv A outer s H vs Q E hA hr h => ?_)
  · obtain ⟨q, v1, v2, r1, r2, m, n, rfl, _⟩ := h; rfl
  · have S := sc_taken
    obtain ⟨q, v1, v2, r1, r2, m, n, rfl, h1, h2, hmn, k⟩ := h
    refine ⟨_, (pss_cons (ps_asg (pe_f C_read_fraction hA hr (by decide) pl_read_fraction (by rfl) (pa_cons (pv 0) (pa_cons pe_str pa_nil))) (pg_tup rfl (pgs_cons (pg_name (i := 2) S.nd rfl (by first | exact .inl rfl | exact .inr rfl)) (pgs_cons (pg_name (i := 3) S.nd rfl (by first | exact .inl rfl | exact .inr rfl)) pgs_nil))))
      (pss_cons (ps_asg (pe_f C_read_fraction hA hr (by decide) pl_read_fraction (by rfl) (pa_cons (pv 1) (pa_cons pe_str pa_nil))) (pg_tup rfl (pgs_cons (pg_name (i := 4) S.nd rfl (by first | exact .inl rfl | exact .inr rfl)) (pgs_cons (pg_name (i := 5) S.nd rfl (by first | exact .inl rfl | exact .inr rfl)) pgs_nil))))
      (pss_one (ps_ret (pe_f C_reduced hA hr (by decide) pl_reduced (by rfl) (pa_cons (pe_op op_sub (pe_op op_mulU (pv 2) (pv 5)) (pe_op op_mulU (pv 4) (pv 3))) (pa_cons (pe_op op_mulU (pv 3) (pv 5)) pa_nil))))))), ?_⟩
    walk_at "mf"
    refine ⟨q, v1, _, r1, m, rfl, h1, by omega, fun p1 H1 s1 n1 e1 => ?_⟩
    refine g_tupG (tupU e1) rfl ?_
    walk_at "mf"
    refine ⟨q, v2, _, r2, n, rfl, h2.go (Same.x s1), by omega, fun p2 H2 s2 n2 e2 => ?_⟩
    refine g_tupG (tupU e2) rfl ?_
    have b1 := h1.rb
    have b2 := h2.rb
    have c1 := b1.1.cm b2.2 (by omega)
    have c2 := b2.1.cm b1.2 (by omega)
    have c3 := b1.2.cm b2.2 (by omega)
    have c4 := b1.1.cm b2.1 (by omega)
    walk_at "mf"
    refine g_mulU c1 ?_
    walk_at "mf"
    refine g_mulU c2 ?_
    walk_at "mf"
    refine g_mulU c3 ?_
    walk_at "mf"
    refine ⟨_, _, rfl, dd1 r1 r2, (b1.2.mul b2.2).mono (by omega), ?_⟩
    rw [sub_div]
    exact (RetT.same k s1).same s2
theorem ok_multiplied (c : Cn) (T : Tx c) : Cl c 5 "multiplied" s_multiplied ["one", "other"] (sp_bin (· * ·) c.K) := by
  obtain ⟨P, w, K, mg, base⟩ := c
  have C_read_fraction := ok_read_fraction _ T
  have C_reduced := ok_reduced _ T
  refine De.cl (N := ["one", "other", "up", "down", "times", "below"]) T.d_multiplied sc_multiplied (fun vs H Q E h => ?_) (fun f0 cdv A outer s H vs Q E hA hr h => ?_)
  · obtain ⟨q, v1, v2, r1, r2, m, n, rfl, _⟩ := h; rfl
  · have S := sc_multiplied
    obtain ⟨q, v1, v2, r1, r2, m, n, rfl, h1, h2, hmn, k⟩ := h
    refine ⟨_, (pss_cons (ps_asg (pe_f C_read_fraction hA hr (by decide) pl_read_fraction (by rfl) (pa_cons (pv 0) (pa_cons pe_str pa_nil))) (pg_tup rfl (pgs_cons (pg_name (i := 2) S.nd rfl (by first | exact .inl rfl | exact .inr rfl)) (pgs_cons (pg_name (i := 3) S.nd rfl (by first | exact .inl rfl | exact .inr rfl)) pgs_nil))))
      (pss_cons (ps_asg (pe_f C_read_fraction hA hr (by decide) pl_read_fraction (by rfl) (pa_cons (pv 1) (pa_cons pe_str pa_nil))) (pg_tup rfl (pgs_cons (pg_name (i := 4) S.nd rfl (by first | exact .inl rfl | exact .inr rfl)) (pgs_cons (pg_name (i := 5) S.nd rfl (by first | exact .inl rfl | exact .inr rfl)) pgs_nil))))
      (pss_one (ps_ret (pe_f C_reduced hA hr (by decide) pl_reduced (by rfl) (pa_cons (pe_op op_mulU (pv 2) (pv 4)) (pa_cons (pe_op op_mulU (pv 3) (pv 5)) pa_nil))))))), ?_⟩
    walk_at "mf"
    refine ⟨q, v1, _, r1, m, rfl, h1, by omega, fun p1 H1 s1 n1 e1 => ?_⟩
    refine g_tupG (tupU e1) rfl ?_
    walk_at "mf"
    refine ⟨q, v2, _, r2, n, rfl, h2.go (Same.x s1), by omega, fun p2 H2 s2 n2 e2 => ?_⟩
    refine g_tupG (tupU e2) rfl ?_
    have b1 := h1.rb
    have b2 := h2.rb
    have c1 := b1.1.cm b2.2 (by omega)
    have c2 := b2.1.cm b1.2 (by omega)
    have c3 := b1.2.cm b2.2 (by omega)
    have c4 := b1.1.cm b2.1 (by omega)
    walk_at "mf"
    refine g_mulU c4 ?_
    walk_at "mf"
    refine g_mulU c3 ?_
    walk_at "mf"
    refine ⟨_, _, rfl, dd1 r1 r2, (b1.2.mul b2.2).mono (by omega), ?_⟩
    rw [mul_div]
    exact (RetT.same k s1).same s2
theorem ok_divided (c : Cn) (T : Tx c) : Cl c 5 "divided" s_divided ["one", "other"] (sp_divd c.K) := by
  obtain ⟨P, w, K, mg, base⟩ := c
  have C_read_fraction := ok_read_fraction _ T
  have C_reduced := ok_reduced _ T
  refine De.cl (N := ["one", "other", "up", "down", "times", "below"]) T.d_divided sc_divided (fun vs H Q E h => ?_) (fun f0 cdv A outer s H vs Q E hA hr h => ?_)
  · obtain ⟨q, v1, v2, r1, r2, m, n, rfl, _⟩ := h; rfl
  · have S := sc_divided
    obtain ⟨q, v1, v2, r1, r2, m, n, rfl, h1, h2, hmn, hr0, k⟩ := h
    refine ⟨_, (pss_cons (ps_asg (pe_f C_read_fraction hA hr (by decide) pl_read_fraction (by rfl) (pa_cons (pv 0) (pa_cons pe_str pa_nil))) (pg_tup rfl (pgs_cons (pg_name (i := 2) S.nd rfl (by first | exact .inl rfl | exact .inr rfl)) (pgs_cons (pg_name (i := 3) S.nd rfl (by first | exact .inl rfl | exact .inr rfl)) pgs_nil))))
      (pss_cons (ps_asg (pe_f C_read_fraction hA hr (by decide) pl_read_fraction (by rfl) (pa_cons (pv 1) (pa_cons pe_str pa_nil))) (pg_tup rfl (pgs_cons (pg_name (i := 4) S.nd rfl (by first | exact .inl rfl | exact .inr rfl)) (pgs_cons (pg_name (i := 5) S.nd rfl (by first | exact .inl rfl | exact .inr rfl)) pgs_nil))))
      (pss_cons (ps_if (pt_cmpR (op_eqU hr.units) (pv 4) pe_int (nomark _)) (pss_one ps_never) pss_nil)
      (pss_cons (ps_if (pt_cmpR op_lt (pv 4) pe_int (nomark _)) (pss_one (ps_ret (pe_f C_reduced hA hr (by decide) pl_reduced (by rfl) (pa_cons (pe_op op_mulU (pe_un un_neg (pv 2)) (pv 5)) (pa_cons (pe_op op_mulU (pe_un un_neg (pv 4)) (pv 3)) pa_nil))))) pss_nil)
      (pss_one (ps_ret (pe_f C_reduced hA hr (by decide) pl_reduced (by rfl) (pa_cons (pe_op op_mulU (pv 2) (pv 5)) (pa_cons (pe_op op_mulU (pv 4) (pv 3)) pa_nil))))))))), ?_⟩
    walk_at "mf"
    refine ⟨q, v1, _, r1, m, rfl, h1, by omega, fun p1 H1 s1 n1 e1 => ?_⟩
    refine g_tupG (tupU e1) rfl ?_
    walk_at "mf"
    refine ⟨q, v2, _, r2, n, rfl, h2.go (Same.x s1), by omega, fun p2 H2 s2 n2 e2 => ?_⟩
    refine g_tupG (tupU e2) rfl ?_
    have b1 := h1.rb
    have b2 := h2.rb
    have c1 := b1.1.cm b2.2 (by omega)
    have c2 := b2.1.cm b1.2 (by omega)
    have c3 := b1.2.cm b2.2 (by omega)
    have c4 := b1.1.cm b2.1 (by omega)
    walk_at "mf"
    have hnz : r2.num ≠ 0 := fun e => hr0 (Rat.num_eq_zero.mp e)
    refine g_ite (fun h => absurd (of_decide_eq_true h) hnz) (fun _ => ?_)
    walk_at "mf"
    have d1 := den1 r1
    refine g_ite (fun h => ?_) (fun h => ?_)
    · have h := of_decide_eq_true h
      have c5 := b1.1.neg.cm b2.2 (by omega)
      have c6 := b2.1.neg.cm b1.2 (by omega)
      walk_at "mf"
      refine g_mulU c5 ?_
      walk_at "mf"
      refine g_mulU c6 ?_
      walk_at "mf"
      refine ⟨_, _, rfl, Int.le_trans (by decide) (Int.mul_le_mul (show 1 ≤ -r2.num by omega) d1 (by decide) (by omega)), (b2.1.neg.mul b1.2).mono (by omega), ?_⟩
      rw [div_neg]
      exact (RetT.same k s1).same s2
    · have h := of_decide_eq_false h
      walk_at "mf"
      refine g_mulU c1 ?_
      walk_at "mf"
      refine g_mulU c2 ?_
      walk_at "mf"
      refine ⟨_, _, rfl, Int.le_trans (by decide) (Int.mul_le_mul (show 1 ≤ r2.num by omega) d1 (by decide) (by omega)), (b2.1.mul b1.2).mono (by omega), ?_⟩
      rw [div_div]
      exact (RetT.same k s1).same s2
end Mf
namespace Mf
open PySem PySem.Spec PyProof.Rows L2
local macro_rules | `(tactic| walk_at "mf1") => `(tactic| first
  | ((with_reducible apply g_var); exact rfl)
  | with_reducible first
    | refine g_c ?_ | refine g_op ?_ | refine g_un ?_ | refine g_cb ?_ | refine g_cl ?_ | refine g_clX ?_ | refine g_mkR ?_ | refine g_clk ?_ | refine g_nil ?_ | refine g_cons ?_
    | refine g_tB ?_ | refine g_test ?_ | refine g_bl ?_ | refine g_and ?_ | refine g_or ?_ | refine g_not ?_ | refine g_andV ?_ | refine g_orV ?_ | refine g_notV ?_
    | refine g_if ?_ | refine g_ifS ?_ | refine g_seq ?_ | refine g_next ?_ | refine g_ret ?_ | refine g_drop ?_ | refine g_asg ?_ | refine g_name ?_ | refine g_sub ?_
    | refine g_int ?_ | refine g_intB ?_ | refine g_abs ?_ | refine g_I0 ?_ | refine g_addI ?_ | refine g_U ?_ | refine g_isNn ?_ | refine g_isNi ?_ | refine g_notN ?_ | refine g_notT1 ?_ | refine g_notT2 ?_ | refine g_notT3 ?_ | refine g_notT4 ?_ | refine g_notTb ?_ | refine g_notTi ?_ | refine g_eqI ?_ | refine g_neI ?_ | refine g_neSs ?_ | refine g_neS ?_ | refine g_eqS ?_
    | refine g_iteT ?_ | refine g_iteF ?_ | refine g_iteNT ?_ | refine g_iteNF ?_ | refine g_lst ?_ | refine g_tup ?_ | refine g_seqP ?_ | refine g_sl ?_ | refine g_noPart ?_ | refine g_part ?_ | refine g_yes ?_ | refine g_thenT ?_ | refine g_consG ?_ | refine g_nilG ?_ | refine g_ii ?_ | refine g_par ?_ | refine g_par3 ?_ | refine g_vv ?_ | refine g_vvv ?_ | refine g_reprB ?_ | refine g_lcL ?_ | refine g_lcR ?_
  | ((with_reducible refine g_mod ?_ ?_); (first | omega | decide))
  | ((with_reducible refine g_div ?_ ?_ ?_); (first | omega | decide); (first | assumption | decide))
  | ((with_reducible refine g_mulL ?_ ?_ ?_); (first | omega | decide); (first | omega | decide))
  | ((with_reducible refine g_mulR ?_ ?_ ?_); (first | omega | decide); (first | omega | decide))
  | ((with_reducible refine g_pow ?_ ?_ ?_ ?_); decide; decide; (first | omega | decide))
  | dsimp only)
local macro_rules | `(tactic| walk_at "mf1s") => `(tactic| first
  | ((with_reducible apply g_var); exact rfl)
  | with_reducible first
    | refine g_c ?_ | refine g_op ?_ | refine g_un ?_ | refine g_cb ?_ | refine g_cl ?_ | refine g_clX ?_ | refine g_mkR ?_ | refine g_clk ?_ | refine g_nil ?_ | refine g_cons ?_
    | refine g_tB ?_ | refine g_test ?_ | refine g_bl ?_ | refine g_and ?_ | refine g_or ?_ | refine g_not ?_ | refine g_andV ?_ | refine g_orV ?_ | refine g_notV ?_
    | refine g_if ?_ | refine g_ifS ?_ | refine g_next ?_ | refine g_ret ?_ | refine g_drop ?_ | refine g_asg ?_ | refine g_name ?_ | refine g_sub ?_
    | refine g_int ?_ | refine g_intB ?_ | refine g_abs ?_ | refine g_I0 ?_ | refine g_addI ?_ | refine g_U ?_ | refine g_isNn ?_ | refine g_isNi ?_ | refine g_notN ?_ | refine g_notT1 ?_ | refine g_notT2 ?_ | refine g_notT3 ?_ | refine g_notT4 ?_ | refine g_notTb ?_ | refine g_notTi ?_ | refine g_eqI ?_ | refine g_neI ?_ | refine g_neSs ?_ | refine g_neS ?_ | refine g_eqS ?_
    | refine g_iteT ?_ | refine g_iteF ?_ | refine g_iteNT ?_ | refine g_iteNF ?_ | refine g_lst ?_ | refine g_tup ?_ | refine g_seqP ?_ | refine g_sl ?_ | refine g_noPart ?_ | refine g_part ?_ | refine g_yes ?_ | refine g_thenT ?_ | refine g_consG ?_ | refine g_nilG ?_ | refine g_ii ?_ | refine g_par ?_ | refine g_par3 ?_ | refine g_vv ?_ | refine g_vvv ?_ | refine g_reprB ?_ | refine g_lcL ?_ | refine g_lcR ?_
  | ((with_reducible refine g_mod ?_ ?_); (first | omega | decide))
  | ((with_reducible refine g_div ?_ ?_ ?_); (first | omega | decide); (first | assumption | decide))
  | ((with_reducible refine g_mulL ?_ ?_ ?_); (first | omega | decide); (first | omega | decide))
  | ((with_reducible refine g_mulR ?_ ?_ ?_); (first | omega | decide); (first | omega | decide))
  | ((with_reducible refine g_pow ?_ ?_ ?_ ?_); decide; decide; (first | omega | decide))
  | dsimp only)
local macro_rules | `(tactic| walk_at "mfs") => `(tactic| repeat walk_at "mf1s")
local macro_rules | `(tactic| walk_at "mf") => `(tactic| repeat walk_at "mf1")
local macro_rules | `(tactic| walk_at "ed") => `(tactic| repeat (first
  | with_reducible first
    | exact eds_nil | apply eds_cons | exact ed_int | exact ed_bl | exact ed_non | apply ed_neg
  | ((with_reducible apply ed_str); decide)
  | ((with_reducible apply ed_var); (exact rfl); (first | assumption | exact Dq.int _))
  | ((with_reducible apply ed_dict0); assumption)
  | ((with_reducible apply ed_dict2); assumption)
  | ((with_reducible apply ed_tup); assumption)
  | ((with_reducible apply ed_lst); assumption)
  | (with_reducible apply ed_pow)
  | (with_reducible apply ed_mul)
  | assumption
  | (exact Dq.int _)
  | (exact ⟨by decide, by decide, by decide⟩)
  | (show List.length _ ≤ 1000; simp only [List.length_cons, List.length_nil]; decide)))
theorem ok_trimmed (c : Cn) (T : Tx c) : Cl c 1 "trimmed" s_trimmed ["numbers"] (sp_trim c.K) := by
  obtain ⟨P, w, K, mg, base⟩ := c
  refine De.cl (N := ["numbers", "length"]) T.d_trimmed sc_trimmed (fun vs H Q E h => ?_) (fun f0 cdv A outer s H vs Q E hA hr h => ?_)
  · obtain ⟨a, xs, rs, rfl, _⟩ := h; rfl
  · have S := sc_trimmed
    obtain ⟨a, xs, rs, rfl, hS, hT, hl, k⟩ := h
    refine ⟨_, (pss_cons (ps_set (i := 1) S.nd rfl (by first | exact .inl rfl | exact .inr rfl) (pe_callB call_lenU (by rfl) T.n_len PySem.boot_len (pa_cons (pv 0) pa_nil)))
      (pss_cons (ps_while PassesOwn.never (PW.pt (pw_and (pt_cmpR op_gt (pv 1) pe_int (nomark _)) (pw_and1 (pt_cmpR (op_eqU hr.units) (pe_ix ix_seq (pv 0) (pe_op op_sub (pv 1) pe_int) (fun _ _ => rfl)) (pe_tup (pa_cons pe_int (pa_cons pe_int pa_nil))) (nomark _))))) (pss_one (ps_aug (i := 1) S.nd rfl (by first | exact .inl rfl | exact .inr rfl) pe_int ip_sub)))
      (pss_one (ps_ret (pe_tupleOf (by rfl) T.n_tuple (pe_slice sl_list (pv 0) po_none (po_some (pv 1)))))))), ?_⟩
    have hlen := hT.len
    walk_at "mf"
    refine g_len (.inl hS) ?_
    walk_at "mf"
    refine ⟨fun m σ' H' => ∃ n : Nat, σ' = [some (.ref a), some (.int (n : Nat))] ∧ n ≤ rs.length ∧ tlen rs n = tlen rs rs.length ∧ m = n ∧ Same H H', ⟨xs.length, xs.length, rfl, by omega, by rw [hlen], rfl, Same.refl _⟩, ?_⟩
    intro m σ' H' hW
    obtain ⟨n, rfl, hn, htl, rfl, sW⟩ := hW
    have last : ∀ H2, Same H H2 → tlen rs m = m → ∀ p H3, H2 p = none → Same H2 H3 → H3 p = some (.tup (xs.take m)) → Q (.ref p) H3 := fun H2 s2 e p H3 np s3 e3 => by
      refine k p H3 _ (s2.trans s3) (s2.free np) e3 ?_
      unfold trimR
      rw [← htl, e]
      exact (hT.go (Same.kt (s2.trans s3))).take m
    walk_at "mf"
    refine g_ite (fun h => ?_) (fun h => ?_)
    · have h := of_decide_eq_true h
      obtain ⟨n, rfl⟩ : ∃ n, m = n + 1 := ⟨m - 1, by omega⟩
      obtain ⟨pa, hx, ea⟩ := hT.at (i := n) (by omega)
      walk_at "mf"
      refine g_ix (.inl (sW.seq hS)) (at_of (j := n) (by omega) hx) ?_
      walk_at "mf"
      refine g_newT (by show 2 ≤ sizeLine; decide) fun pz Hz nz sz ez => ?_
      walk_at "mf"
      refine g_eqZ (tupU (sz _ _ (sW _ _ ea))) (tupU ez) ?_
      walk_at "mf"
      refine g_ite (fun hz => ?_) (fun hz => ?_)
      · have hz := of_decide_eq_true hz
        refine ⟨fun σ2 H2 => σ2 = [some (.ref a), some (.int (n : Nat))] ∧ Same H H2, ?_, ?_⟩
        · intro σ2 H2 hN
          obtain ⟨rfl, s2⟩ := hN
          refine ⟨n, by omega, n, rfl, by omega, ?_, rfl, s2⟩
          rw [← htl]
          show _ = (if co rs n = 0 then tlen rs n else n + 1)
          rw [if_pos hz]
        · walk_at "mf"
          refine ⟨_, rfl, ?_⟩
          walk_at "mf"
          refine ⟨_, _, rfl, rfl, ?_⟩
          exact ⟨by show [some (V.ref a), some (V.int (((n + 1 : Nat) : Int) - 1))] = _; rw [show ((n + 1 : Nat) : Int) - 1 = (n : Int) by omega], sW.trans sz⟩
      · have hz := of_decide_eq_false hz
        walk_at "mf"
        refine g_slL (((sW.trans sz) : Same H _).seq hS) fun p2 H2 n2 s2 e2 => ?_
        rw [cut_hi (by omega)] at e2
        walk_at "mf"
        refine g_tupOf (seqU e2) fun p3 H3 n3 s3 e3 => ?_
        exact last _ (((sW.trans sz) : Same H _).trans s2) (by show (if co rs n = 0 then tlen rs n else n + 1) = _; rw [if_neg hz]) p3 H3 n3 s3 e3
    · have h := of_decide_eq_false h
      obtain rfl : m = 0 := by omega
      walk_at "mf"
      refine g_slL (sW.seq hS) fun p2 H2 n2 s2 e2 => ?_
      rw [cut_hi (by omega)] at e2
      walk_at "mf"
      refine g_tupOf (seqU e2) fun p3 H3 n3 s3 e3 => ?_
      exact last _ (sW.trans s2) rfl p3 H3 n3 s3 e3
end Mf
namespace Mf
open PySem PySem.Spec PyProof.Rows L2
local macro_rules | `(tactic| walk_at "mf1") => `(tactic| first
  | ((with_reducible apply g_var); exact rfl)
  | with_reducible first
    | refine g_c ?_ | refine g_op ?_ | refine g_un ?_ | refine g_cb ?_ | refine g_cl ?_ | refine g_clX ?_ | refine g_mkR ?_ | refine g_clk ?_ | refine g_nil ?_ | refine g_cons ?_
    | refine g_tB ?_ | refine g_test ?_ | refine g_bl ?_ | refine g_and ?_ | refine g_or ?_ | refine g_not ?_ | refine g_andV ?_ | refine g_orV ?_ | refine g_notV ?_
    | refine g_if ?_ | refine g_ifS ?_ | refine g_seq ?_ | refine g_next ?_ | refine g_ret ?_ | refine g_drop ?_ | refine g_asg ?_ | refine g_name ?_ | refine g_sub ?_
    | refine g_int ?_ | refine g_intB ?_ | refine g_abs ?_ | refine g_I0 ?_ | refine g_addI ?_ | refine g_U ?_ | refine g_isNn ?_ | refine g_isNi ?_ | refine g_notN ?_ | refine g_notT1 ?_ | refine g_notT2 ?_ | refine g_notT3 ?_ | refine g_notT4 ?_ | refine g_notTb ?_ | refine g_notTi ?_ | refine g_eqI ?_ | refine g_neI ?_ | refine g_neSs ?_ | refine g_neS ?_ | refine g_eqS ?_
    | refine g_iteT ?_ | refine g_iteF ?_ | refine g_iteNT ?_ | refine g_iteNF ?_ | refine g_lst ?_ | refine g_tup ?_ | refine g_seqP ?_ | refine g_sl ?_ | refine g_noPart ?_ | refine g_part ?_ | refine g_yes ?_ | refine g_thenT ?_ | refine g_consG ?_ | refine g_nilG ?_ | refine g_ii ?_ | refine g_par ?_ | refine g_par3 ?_ | refine g_vv ?_ | refine g_vvv ?_ | refine g_reprB ?_ | refine g_lcL ?_ | refine g_lcR ?_
  | ((with_reducible refine g_mod ?_ ?_); (first | omega | decide))
  | ((with_reducible refine g_div ?_ ?_ ?_); (first | omega | decide); (first | assumption | decide))
  | ((with_reducible refine g_mulL ?_ ?_ ?_); (first | omega | decide); (first | omega | decide))
  | ((with_reducible refine g_mulR ?_ ?_ ?_); (first | omega | decide); (first | omega | decide))
  | ((with_reducible refine g_pow ?_ ?_ ?_ ?_); decide; decide; (first | omega | decide))
  | dsimp only)
local macro_rules | `(tactic| walk_at "mf1s") => `(tactic| first
  | ((with_reducible apply g_var); exact rfl)
  | with_reducible first
    | refine g_c ?_ | refine g_op ?_ | refine g_un ?_ | refine g_cb ?_ | refine g_cl ?_ | refine g_clX ?_ | refine g_mkR ?_ | refine g_clk ?_ | refine g_nil ?_ | refine g_cons ?_
    | refine g_tB ?_ | refine g_test ?_ | refine g_bl ?_ | refine g_and ?_ | refine g_or ?_ | refine g_not ?_ | refine g_andV ?_ | refine g_orV ?_ | refine g_notV ?_
    | refine g_if ?_ | refine g_ifS ?_ | refine g_next ?_ | refine g_ret ?_ | refine g_drop ?_ | refine g_asg ?_ | refine g_name ?_ | refine g_sub ?_
    | refine g_int ?_ | refine g_intB ?_ | refine g_abs ?_ | refine g_I0 ?_ | refine g_addI ?_ | refine g_U ?_ | refine g_isNn ?_ | refine g_isNi ?_ | refine g_notN ?_ | refine g_notT1 ?_ | refine g_notT2 ?_ | refine g_notT3 ?_ | refine g_notT4 ?_ | refine g_notTb ?_ | refine g_notTi ?_ | refine g_eqI ?_ | refine g_neI ?_ | refine g_neSs ?_ | refine g_neS ?_ | refine g_eqS ?_
    | refine g_iteT ?_ | refine g_iteF ?_ | refine g_iteNT ?_ | refine g_iteNF ?_ | refine g_lst ?_ | refine g_tup ?_ | refine g_seqP ?_ | refine g_sl ?_ | refine g_noPart ?_ | refine g_part ?_ | refine g_yes ?_ | refine g_thenT ?_ | refine g_consG ?_ | refine g_nilG ?_ | refine g_ii ?_ | refine g_par ?_ | refine g_par3 ?_ | refine g_vv ?_ | refine g_vvv ?_ | refine g_reprB ?_ | refine g_lcL ?_ | refine g_lcR ?_
  | ((with_reducible refine g_mod ?_ ?_); (first | omega | decide))
  | ((with_reducible refine g_div ?_ ?_ ?_); (first | omega | decide); (first | assumption | decide))
  | ((with_reducible refine g_mulL ?_ ?_ ?_); (first | omega | decide); (first | omega | decide))
  | ((with_reducible refine g_mulR ?_ ?_ ?_); (first | omega | decide); (first | omega | decide))
  | ((with_reducible refine g_pow ?_ ?_ ?_ ?_); decide; decide; (first | omega | decide))
  | dsimp only)
local macro_rules | `(tactic| walk_at "mfs") => `(tactic| repeat walk_at "mf1s")
local macro_rules | `(tactic| walk_at "mf") => `(tactic| repeat walk_at "mf1")
local macro_rules | `(tactic| walk_at "ed") => `(tactic| repeat (first
  | with_reducible first
    | exact eds_nil | apply eds_cons | exact ed_int | exact ed_bl | exact ed_non | apply ed_neg
  | ((with_reducible apply ed_str); decide)
  | ((with_reducible apply ed_var); (exact rfl); (first | assumption | exact Dq.int _))
  | ((with_reducible apply ed_dict0); assumption)
  | ((with_reducible apply ed_dict2); assumption)
  | ((with_reducible apply ed_tup); assumption)
  | ((with_reducible apply ed_lst); assumption)
  | (with_reducible apply ed_pow)
  | (with_reducible apply ed_mul)
  | assumption
  | (exact Dq.int _)
  | (exact ⟨by decide, by decide, by decide⟩)
  | (show List.length _ ≤ 1000; simp only [List.length_cons, List.length_nil]; decide)))

def itD : PyData → List PyData
  | .list ds | .tuple ds => ds
  | _ => []
def isPyD (d : PyData) : Bool := isSeqD d && (decide ((itD d).length ≤ 80) && ((itD d).map isFrD).all id)
theorem isPyD_no {d : PyData} (e : isSeqD d = false) : isPyD d = false := by unfold isPyD; rw [e]; rfl
theorem isPyD_of {d : PyData} {ds : List PyData} (e : d = .list ds ∨ d = .tuple ds) : isPyD d = (decide (ds.length ≤ 80) && (ds.map isFrD).all id) := by rcases e with rfl | rfl <;> rfl
theorem all_isFr {ds : List PyData} (h : ∀ d ∈ ds, isFrD d = true) : (ds.map isFrD).all id = true := by
  rw [List.all_eq_true]
  intro b hb
  obtain ⟨d, hd, rfl⟩ := List.mem_map.mp hb
  exact h d hd
def sp_isply (K : PySem.W.Frag) : Sp := fun vs H Q _ => ∃ q v d, vs = [v] ∧ Dq q K H v d ∧ (itD d).length ≤ 900 ∧ ∀ H', Same H H' → Q (.bl (isPyD d)) H'
theorem ok_is_poly (c : Cn) (T : Tx c) : Cl c 4 "is_poly" s_is_poly ["value"] (sp_isply c.K) := by
  obtain ⟨P, w, K, mg, base⟩ := c
  have C_is_fraction := ok_is_fraction _ T
  have C_is_list := ok_is_list _ T
  refine De.cl (N := ["value", "number"]) T.d_is_poly sc_is_poly (fun vs H Q E h => ?_) (fun f0 cdv A outer s H vs Q E hA hr h => ?_)
  · obtain ⟨q, v, d, rfl, _⟩ := h; rfl
  · have S := sc_is_poly
    obtain ⟨q, v, d, rfl, hd, hsm, k⟩ := h
    refine ⟨_, (pss_one (ps_ret (pe_and (pe_f C_is_list hA hr (by decide) pl_is_list (by rfl) (pa_cons (pv 0) pa_nil)) (pe_and (pe_cmpR op_le (pe_callB call_lenU (by rfl) T.n_len PySem.boot_len (pa_cons (pv 0) pa_nil)) (pe_globI (i := 80) (by rfl) T.c_MOST_NUMBERS) (nomark _)) (pe_one (pe_callB (cr_all rfl) (by rfl) T.n_all (by decide +kernel) (pa_cons (pe_lc (own := [("number", 1)]) (g := gName 1) (tt := tYes) rfl S.nd (pi_or (pi_list (pv 0)) (pi_tup (pv 0))) (blkOk_by (N := ["value", "number"]) (sc := defScope s_is_poly) (by decide +kernel)) (fun _ _ _ _ _ => pg_name (i := 1) S.nd rfl (Or.inl rfl)) (fun _ _ _ _ _ => pts_nil) (fun _ _ _ _ _ => (pe_f C_is_fraction hA hr (by decide) pl_is_fraction (by rfl) (pa_cons (pv 1) pa_nil)))) pa_nil))))))), ?_⟩
    walk_at "mf"
    refine ⟨q, v, d, rfl, hd, ?_⟩
    walk_at "mf"
    refine g_ite (fun h2 => ?_) (fun h2 => ?_)
    · obtain ⟨a, xs, ds, rfl, na, hs, hall, ed⟩ := hd.seq h2
      have hit : itD d = ds := by rcases ed with rfl | rfl <;> rfl
      rw [hit] at hsm
      have hlen := hall.len
      rw [isPyD_of ed] at k
      walk_at "mf"
      refine g_len hs ?_
      walk_at "mf"
      refine g_ite (fun h3 => ?_) (fun h3 => ?_)
      · walk_at "mf"
        rw [decide_eq_true (show ds.length ≤ 80 by simp at h3; omega), Bool.true_and] at k
        refine cut_lc (fun (H1 : Hp) (D : Addr) => H1 D = some (.lst ((ds.map isFrD).map V.bl))) (fun Q' k' => ?_) (fun H1 D s1 e1 => ?_)
        · rcases hs with hs | hs
          · refine g_lcO1 ?_
            walk_at "mf"
            refine ⟨a, rfl, ⟨_, hs⟩, ?_⟩
            refine lcgo_listF (xs := xs) (fun D i H' => Same H H' ∧ H' D = some (.lst (((ds.map isFrD).take i).map V.bl))) (fun z => rfl) (fun D hD => ⟨same_new hD, upd_same⟩) (fun D i H' _ h => h.1.seq hs) (fun D i z H' hD ez h => ?_) (fun D H' hD h => ?_)
            · obtain ⟨h1, h2⟩ := h
              obtain ⟨d, ed, hd⟩ := hall.get ez
              have hi := (List.getElem?_eq_some_iff.mp ez).1
              walk_at "mf"
              refine ⟨q, z, d, rfl, hd.go (Same.x h1), ?_⟩
              refine ⟨_, h2, ?_, ?_, ?_⟩
              · rw [List.length_map, List.length_take, List.length_map]
                exact small1000 (by omega)
              · intro b o e
                rw [upd_ne (ne_of_none e hD)]
                exact h1 b o e
              · have eq1 : (ds.map isFrD)[i]? = some (isFrD d) := by rw [List.getElem?_map, ed]; rfl
                rw [upd_same, take_snoc eq1, List.map_append]
                rfl
            · obtain ⟨h1, h2⟩ := h
              exact k' H' D h1 (by rw [h2, hall.len, show ds.length = (ds.map isFrD).length by rw [List.length_map], List.take_length])
          · refine g_lcO2 ?_
            walk_at "mf"
            refine ⟨a, rfl, ⟨_, hs⟩, ?_⟩
            refine lcgo_tupF (xs := xs) (fun D i H' => Same H H' ∧ H' D = some (.lst (((ds.map isFrD).take i).map V.bl))) (fun z => rfl) (fun D hD => ⟨same_new hD, upd_same⟩) (fun D i H' _ h => (Same.x (q := q) h.1).tup na hs) (fun D i z H' hD ez h => ?_) (fun D H' hD h => ?_)
            · obtain ⟨h1, h2⟩ := h
              obtain ⟨d, ed, hd⟩ := hall.get ez
              have hi := (List.getElem?_eq_some_iff.mp ez).1
              walk_at "mf"
              refine ⟨q, z, d, rfl, hd.go (Same.x h1), ?_⟩
              refine ⟨_, h2, ?_, ?_, ?_⟩
              · rw [List.length_map, List.length_take, List.length_map]
                exact small1000 (by omega)
              · intro b o e
                rw [upd_ne (ne_of_none e hD)]
                exact h1 b o e
              · have eq1 : (ds.map isFrD)[i]? = some (isFrD d) := by rw [List.getElem?_map, ed]; rfl
                rw [upd_same, take_snoc eq1, List.map_append]
                rfl
            · obtain ⟨h1, h2⟩ := h
              exact k' H' D h1 (by rw [h2, hall.len, show ds.length = (ds.map isFrD).length by rw [List.length_map], List.take_length])
        walk_at "mf"
        exact g_all (seqU e1) (k _ s1)
      · rw [decide_eq_false (show ¬ ds.length ≤ 80 by simp at h3; omega), Bool.false_and] at k
        exact k _ (Same.refl _)
    · rw [isPyD_no h2] at k
      exact k _ (Same.refl _)
theorem ok_read_poly (c : Cn) (T : Tx c) : Cl c 6 "read_poly" s_read_poly ["value", "part"] (sp_rpoly c.K) := by
  obtain ⟨P, w, K, mg, base⟩ := c
  have C_fraction_of := ok_fraction_of _ T
  have C_is_poly := ok_is_poly _ T
  have C_trimmed := ok_trimmed _ T
  refine De.cl (N := ["value", "part", "number"]) T.d_read_poly sc_read_poly (fun vs H Q E h => ?_) (fun f0 cdv A outer s H vs Q E hA hr h => ?_)
  · obtain ⟨q, a, xs, ds, n, part, rfl, _⟩ := h; rfl
  · have S := sc_read_poly
    obtain ⟨q, a, xs, ds, n, part, rfl, na, hs, hall, hok, hn, hl, k⟩ := h
    refine ⟨_, (pss_cons (ps_if (pt_not (pt_val (pe_f C_is_poly hA hr (by decide) pl_is_poly (by rfl) (pa_cons (pv 0) pa_nil)))) (pss_one ps_never) pss_nil)
      (pss_one (ps_ret (pe_f C_trimmed hA hr (by decide) pl_trimmed (by rfl) (pa_cons (pe_lc (own := [("number", 2)]) (g := gName 2) (tt := tYes) rfl S.nd (pi_or (pi_list (pv 0)) (pi_tup (pv 0))) (blkOk_by (N := ["value", "part", "number"]) (sc := defScope s_read_poly) (by decide +kernel)) (fun _ _ _ _ _ => pg_name (i := 2) S.nd rfl (Or.inl rfl)) (fun _ _ _ _ _ => pts_nil) (fun _ _ _ _ _ => (pe_f C_fraction_of hA hr (by decide) pl_fraction_of (by rfl) (pa_cons (pv 2) pa_nil)))) pa_nil))))), ?_⟩
    obtain ⟨dd, hdd, hse⟩ : ∃ dd, Dq q K H (.ref a) dd ∧ (dd = .list ds ∨ dd = .tuple ds) := by
      rcases hs with hs | hs
      · exact ⟨.list ds, .lst na hs hall, .inl rfl⟩
      · exact ⟨.tuple ds, .tup na hs hall, .inr rfl⟩
    have hlen := hall.len
    have hit : itD dd = ds := by rcases hse with rfl | rfl <;> rfl
    walk_at "mf"
    refine ⟨q, .ref a, dd, rfl, hdd, by rw [hit]; omega, fun H1 s1 => ?_⟩
    rw [isPyD_of hse, decide_eq_true hl, Bool.true_and, all_isFr fun d hd => (hok d hd).1]
    walk_at "mf"
    refine cut_lc (fun (H2 : Hp) (D : Addr) => ∃ vs, H2 D = some (.lst vs) ∧ vs.length = ds.length ∧ TL H2 vs (ds.map valQ)) (fun Q' k' => ?_) (fun H2 D2 s2 e2 => ?_)
    · have hs := hs.go (Same.x (q := q) s1) na
      rcases hs with hs | hs
      · refine g_lcO1 ?_
        walk_at "mf"
        refine ⟨a, rfl, ⟨_, hs⟩, ?_⟩
        refine lcgo_listF (xs := xs) (fun D i H' => Same H1 H' ∧ ∃ vs, H' D = some (.lst vs) ∧ vs.length = i ∧ TL H' vs ((ds.map valQ).take i)) (fun z => rfl) (fun D hD => ⟨same_new hD, [], upd_same, rfl, .nil⟩) (fun D i H' _ h => h.1.seq hs) (fun D i z H' hD ez h => ?_) (fun D H' hD h => ?_)
        · obtain ⟨h1, vs, h2, h3, h4⟩ := h
          obtain ⟨d, ed, hd⟩ := hall.get ez
          have hi := (List.getElem?_eq_some_iff.mp ez).1
          rw [hall.len] at hi
          obtain ⟨f1, f2, f3⟩ := hok d (List.mem_of_getElem? ed)
          walk_at "mf"
          refine ⟨q, z, valQ d, n, rfl, Fr.of (hd.go (Same.x (s1.trans h1))) f1 f2 f3, by omega, fun p3 H3 s3 n3 e3 => ?_⟩
          have eD := s3 _ _ h2
          have kt := upd_kt (o := .lst (vs ++ [.ref p3])) eD
          refine ⟨vs, eD, small1000 (by omega), ?_, vs ++ [.ref p3], upd_same, by rw [List.length_append, h3]; rfl, ?_⟩
          · intro b o e
            rw [upd_ne (ne_of_none e hD)]
            exact s3 _ _ (h1 _ _ e)
          · have eq1 : (ds.map valQ)[i]? = some (valQ d) := by rw [List.getElem?_map, ed]; rfl
            rw [take_snoc eq1]
            exact ((h4.go (Same.kt s3)).go kt).snoc (kt _ _ e3)
        · obtain ⟨h1, vs, h2, h3, h4⟩ := h
          rw [hall.len, show ds.length = (ds.map valQ).length by rw [List.length_map], List.take_length] at h4
          exact k' H' D h1 ⟨vs, h2, by rw [h3, hall.len], h4⟩
      · refine g_lcO2 ?_
        walk_at "mf"
        refine ⟨a, rfl, ⟨_, hs⟩, ?_⟩
        refine lcgo_tupF (xs := xs) (fun D i H' => Same H1 H' ∧ ∃ vs, H' D = some (.lst vs) ∧ vs.length = i ∧ TL H' vs ((ds.map valQ).take i)) (fun z => rfl) (fun D hD => ⟨same_new hD, [], upd_same, rfl, .nil⟩) (fun D i H' _ h => (Same.x (q := q) h.1).tup na hs) (fun D i z H' hD ez h => ?_) (fun D H' hD h => ?_)
        · obtain ⟨h1, vs, h2, h3, h4⟩ := h
          obtain ⟨d, ed, hd⟩ := hall.get ez
          have hi := (List.getElem?_eq_some_iff.mp ez).1
          rw [hall.len] at hi
          obtain ⟨f1, f2, f3⟩ := hok d (List.mem_of_getElem? ed)
          walk_at "mf"
          refine ⟨q, z, valQ d, n, rfl, Fr.of (hd.go (Same.x (s1.trans h1))) f1 f2 f3, by omega, fun p3 H3 s3 n3 e3 => ?_⟩
          have eD := s3 _ _ h2
          have kt := upd_kt (o := .lst (vs ++ [.ref p3])) eD
          refine ⟨vs, eD, small1000 (by omega), ?_, vs ++ [.ref p3], upd_same, by rw [List.length_append, h3]; rfl, ?_⟩
          · intro b o e
            rw [upd_ne (ne_of_none e hD)]
            exact s3 _ _ (h1 _ _ e)
          · have eq1 : (ds.map valQ)[i]? = some (valQ d) := by rw [List.getElem?_map, ed]; rfl
            rw [take_snoc eq1]
            exact ((h4.go (Same.kt s3)).go kt).snoc (kt _ _ e3)
        · obtain ⟨h1, vs, h2, h3, h4⟩ := h
          rw [hall.len, show ds.length = (ds.map valQ).length by rw [List.length_map], List.take_length] at h4
          exact k' H' D h1 ⟨vs, h2, by rw [h3, hall.len], h4⟩
    obtain ⟨vs, e2, l2, t2⟩ := e2
    walk_at "mf"
    refine ⟨D2, vs, _, rfl, seqU e2, t2, by omega, fun p H' ws s n e t => ?_⟩
    exact k p H' ws ((s1.trans s2).trans s) ((s1.trans s2).free n) e t
end Mf
namespace Mf
open PySem PySem.Spec PyProof.Rows L2
local macro_rules | `(tactic| walk_at "mf1") => `(tactic| first
  | ((with_reducible apply g_var); exact rfl)
  | with_reducible first
    | refine g_c ?_ | refine g_op ?_ | refine g_un ?_ | refine g_cb ?_ | refine g_cl ?_ | refine g_clX ?_ | refine g_mkR ?_ | refine g_clk ?_ | refine g_nil ?_ | refine g_cons ?_
    | refine g_tB ?_ | refine g_test ?_ | refine g_bl ?_ | refine g_and ?_ | refine g_or ?_ | refine g_not ?_ | refine g_andV ?_ | refine g_orV ?_ | refine g_notV ?_
    | refine g_if ?_ | refine g_ifS ?_ | refine g_seq ?_ | refine g_next ?_ | refine g_ret ?_ | refine g_drop ?_ | refine g_asg ?_ | refine g_name ?_ | refine g_sub ?_
    | refine g_int ?_ | refine g_intB ?_ | refine g_abs ?_ | refine g_I0 ?_ | refine g_addI ?_ | refine g_U ?_ | refine g_isNn ?_ | refine g_isNi ?_ | refine g_notN ?_ | refine g_notT1 ?_ | refine g_notT2 ?_ | refine g_notT3 ?_ | refine g_notT4 ?_ | refine g_notTb ?_ | refine g_notTi ?_ | refine g_eqI ?_ | refine g_neI ?_ | refine g_neSs ?_ | refine g_neS ?_ | refine g_eqS ?_
    | refine g_iteT ?_ | refine g_iteF ?_ | refine g_iteNT ?_ | refine g_iteNF ?_ | refine g_lst ?_ | refine g_tup ?_ | refine g_seqP ?_ | refine g_sl ?_ | refine g_noPart ?_ | refine g_part ?_ | refine g_yes ?_ | refine g_thenT ?_ | refine g_consG ?_ | refine g_nilG ?_ | refine g_ii ?_ | refine g_par ?_ | refine g_par3 ?_ | refine g_vv ?_ | refine g_vvv ?_ | refine g_reprB ?_ | refine g_lcL ?_ | refine g_lcR ?_
  | ((with_reducible refine g_mod ?_ ?_); (first | omega | decide))
  | ((with_reducible refine g_div ?_ ?_ ?_); (first | omega | decide); (first | assumption | decide))
  | ((with_reducible refine g_mulL ?_ ?_ ?_); (first | omega | decide); (first | omega | decide))
  | ((with_reducible refine g_mulR ?_ ?_ ?_); (first | omega | decide); (first | omega | decide))
  | ((with_reducible refine g_pow ?_ ?_ ?_ ?_); decide; decide; (first | omega | decide))
  | dsimp only)
local macro_rules | `(tactic| walk_at "mf1s") => `(tactic| first
  | ((with_reducible apply g_var); exact rfl)
  | with_reducible first
    | refine g_c ?_ | refine g_op ?_ | refine g_un ?_ | refine g_cb ?_ | refine g_cl ?_ | refine g_clX ?_ | refine g_mkR ?_ | refine g_clk ?_ | refine g_nil ?_ | refine g_cons ?_
    | refine g_tB ?_ | refine g_test ?_ | refine g_bl ?_ | refine g_and ?_ | refine g_or ?_ | refine g_not ?_ | refine g_andV ?_ | refine g_orV ?_ | refine g_notV ?_
    | refine g_if ?_ | refine g_ifS ?_ | refine g_next ?_ | refine g_ret ?_ | refine g_drop ?_ | refine g_asg ?_ | refine g_name ?_ | refine g_sub ?_
    | refine g_int ?_ | refine g_intB ?_ | refine g_abs ?_ | refine g_I0 ?_ | refine g_addI ?_ | refine g_U ?_ | refine g_isNn ?_ | refine g_isNi ?_ | refine g_notN ?_ | refine g_notT1 ?_ | refine g_notT2 ?_ | refine g_notT3 ?_ | refine g_notT4 ?_ | refine g_notTb ?_ | refine g_notTi ?_ | refine g_eqI ?_ | refine g_neI ?_ | refine g_neSs ?_ | refine g_neS ?_ | refine g_eqS ?_
    | refine g_iteT ?_ | refine g_iteF ?_ | refine g_iteNT ?_ | refine g_iteNF ?_ | refine g_lst ?_ | refine g_tup ?_ | refine g_seqP ?_ | refine g_sl ?_ | refine g_noPart ?_ | refine g_part ?_ | refine g_yes ?_ | refine g_thenT ?_ | refine g_consG ?_ | refine g_nilG ?_ | refine g_ii ?_ | refine g_par ?_ | refine g_par3 ?_ | refine g_vv ?_ | refine g_vvv ?_ | refine g_reprB ?_ | refine g_lcL ?_ | refine g_lcR ?_
  | ((with_reducible refine g_mod ?_ ?_); (first | omega | decide))
  | ((with_reducible refine g_div ?_ ?_ ?_); (first | omega | decide); (first | assumption | decide))
  | ((with_reducible refine g_mulL ?_ ?_ ?_); (first | omega | decide); (first | omega | decide))
  | ((with_reducible refine g_mulR ?_ ?_ ?_); (first | omega | decide); (first | omega | decide))
  | ((with_reducible refine g_pow ?_ ?_ ?_ ?_); decide; decide; (first | omega | decide))
  | dsimp only)
local macro_rules | `(tactic| walk_at "mfs") => `(tactic| repeat walk_at "mf1s")
local macro_rules | `(tactic| walk_at "mf") => `(tactic| repeat walk_at "mf1")
local macro_rules | `(tactic| walk_at "ed") => `(tactic| repeat (first
  | with_reducible first
    | exact eds_nil | apply eds_cons | exact ed_int | exact ed_bl | exact ed_non | apply ed_neg
  | ((with_reducible apply ed_str); decide)
  | ((with_reducible apply ed_var); (exact rfl); (first | assumption | exact Dq.int _))
  | ((with_reducible apply ed_dict0); assumption)
  | ((with_reducible apply ed_dict2); assumption)
  | ((with_reducible apply ed_tup); assumption)
  | ((with_reducible apply ed_lst); assumption)
  | (with_reducible apply ed_pow)
  | (with_reducible apply ed_mul)
  | assumption
  | (exact Dq.int _)
  | (exact ⟨by decide, by decide, by decide⟩)
  | (show List.length _ ≤ 1000; simp only [List.length_cons, List.length_nil]; decide)))
theorem ok_over_one_down (c : Cn) (T : Tx c) : Cl c 1 "over_one_down" s_over_one_down ["some"] (sp_oood c.K) := by
  obtain ⟨P, w, K, mg, base⟩ := c
  refine De.cl (N := ["some", "down", "_", "below", "up"]) T.d_over_one_down sc_over_one_down (fun vs H Q E h => ?_) (fun f0 cdv A outer s H vs Q E hA hr h => ?_)
  · obtain ⟨a, xs, rs, n, rfl, _⟩ := h; rfl
  · have S := sc_over_one_down
    obtain ⟨a, xs, rs, n, rfl, ea, tl, bl, hl, hn, hs, k⟩ := h
    refine ⟨_, (pss_cons (ps_set (i := 1) S.nd rfl (by first | exact .inl rfl | exact .inr rfl) pe_int)
      (pss_cons (ps_for PassesOwn.never rfl (pi_tup (pv 0)) (pg_tup rfl (pgs_cons (pg_name (i := 2) S.nd rfl (by first | exact .inl rfl | exact .inr rfl)) (pgs_cons (pg_name (i := 3) S.nd rfl (by first | exact .inl rfl | exact .inr rfl)) pgs_nil))) (pss_one (ps_set (i := 1) S.nd rfl (by first | exact .inl rfl | exact .inr rfl) (pe_callBfun cr_lcm (by rfl) T.m_lcm (pa_cons (pv 1) (pa_cons (pv 3) pa_nil))))))
      (pss_one (ps_ret (pe_tup (pa_cons (pe_lc (own := [("up", 4), ("below", 3)]) (g := g2 K 4 3) (tt := tYes) rfl S.nd (pi_tup (pv 0)) (blkOk_by (N := ["some", "down", "_", "below", "up"]) (sc := defScope s_over_one_down) (by decide +kernel)) (fun _ _ _ _ _ => pg_tup rfl (pgs_cons (pg_name (i := 4) S.nd rfl (Or.inl rfl)) (pgs_cons (pg_name (i := 3) S.nd rfl (Or.inl rfl)) pgs_nil))) (fun _ _ _ _ _ => pts_nil) (fun _ _ _ _ _ => (pe_op op_mulU (pv 4) (pe_op op_fdivW (pv 1) (pv 3))))) (pa_cons (pv 1) pa_nil))))))), ?_⟩
    have hlen := tl.len
    have bt : ∀ i, Bt 5000 (lcmL (rs.take i) : Int) := fun i => by
      refine (lcmL_bt (n := n) (bl.take (k := i))).mono ?_
      have : (rs.take i).length * n ≤ rs.length * n := Nat.mul_le_mul_right _ (by rw [List.length_take]; omega)
      omega
    walk_at "mf"
    refine g_forTP (H0 := H) rfl ea tl (fun i σ' H' => H' = H ∧ ∃ s2 s3, σ' = [some (.ref a), some (.int (lcmL (rs.take i) : Int)), s2, s3, none]) ⟨rfl, _, _, rfl⟩ (fun i σ' H' h => by rw [h.1]; exact Same.refl H) (fun i σ' H' hi gi h => ?_) (fun σ' H' h => ?_)
    · obtain ⟨rfl, s2, s3, rfl⟩ := h
      walk_at "mf"
      refine g_lcm (bt i) ((bl.co hn i).2.mono (by omega)) ?_
      walk_at "mf"
      refine ⟨rfl, some (.int (co rs i).num), some (.int ((co rs i).den : Int)), ?_⟩
      rw [take_snoc gi, lcmL_snoc, Int.natAbs_natCast, Int.natAbs_natCast]
      rfl
    · obtain ⟨rfl, s2, s3, rfl⟩ := h
      rw [List.take_length]
      have hpos := lcmL_pos rs
      have hbt := lcmL_bt bl
      have h9 : rs.length * n + 1 ≤ 8999 := by omega
      have dv := (dvd_fold rs 1).2
      generalize hD : lcmL rs = D at *
      have dv : ∀ r ∈ rs, r.den ∣ D := by rw [← hD]; exact dv
      walk_at "mf"
      refine g_lcTu ?_
      walk_at "mf"
      refine ⟨a, rfl, ⟨_, tupU ea⟩, ?_⟩
      refine lcgo_tupP ea tl (fun L i H2 => Same H' H2 ∧ ∃ us : List Int, H2 L = some (.lst (us.map V.int)) ∧ us.length = i ∧ ∀ j, j < i → ∃ u, us[j]? = some u ∧ Rat.divInt u (D : Int) = co rs j ∧ Bt (n + (rs.length * n + 1)) u) (fun x y => rfl)
        (fun L hL => ⟨same_new hL, [], upd_same, rfl, fun j hj => absurd hj (Nat.not_lt_zero _)⟩) (fun L i H2 h => h.1) (fun L i H2 hL hi gi h => ?_) (fun L H2 hL h => ?_)
      · obtain ⟨h1, us, h2, h3, h4⟩ := h
        have br := bl.co hn i
        have hdv : (co rs i).den ∣ D := dv _ (List.mem_of_getElem? gi)
        have bq : Bt (rs.length * n + 1) ((D : Int) / ((co rs i).den : Int)) := by
          refine Nat.lt_of_le_of_lt (Int.natAbs_ediv_le_natAbs _ _) hbt
        walk_at "mf"
        refine g_div (by have := den1 (co rs i); omega) (br.2.log (by omega)) ?_
        walk_at "mf"
        refine g_mulU (br.1.cm bq (by omega)) ?_
        walk_at "mf"
        refine ⟨_, h2, small1000 (by rw [List.length_map]; omega), ?_, us ++ [(co rs i).num * ((D : Int) / ((co rs i).den : Int))], ?_, by rw [List.length_append, h3]; rfl, fun j hj => ?_⟩
        · intro c o e
          rw [upd_ne (ne_of_none e hL)]
          exact h1 _ _ e
        · rw [upd_same, List.map_append]
          rfl
        · by_cases z : j < i
          · obtain ⟨u, e1, e2⟩ := h4 j z
            exact ⟨u, by rw [List.getElem?_append_left (by omega)]; exact e1, e2⟩
          · have e : j = i := by omega
            subst e
            refine ⟨_, ?_, one_down hpos hdv, br.1.mul bq⟩
            rw [List.getElem?_append_right (by omega), h3, Nat.sub_self]
            rfl
      · obtain ⟨h1, us, h2, h3, h4⟩ := h
        walk_at "mf"
        refine g_newT (by show 2 ≤ sizeLine; decide) fun p H3 np s3 e3 => ?_
        rw [← hD] at e3 h4
        exact k p H3 L us (h1.trans s3) (h1.free np) e3 (s3 _ _ h2) h3 h4
end Mf
namespace Mf
open PySem PySem.Spec PyProof.Rows L2
local macro_rules | `(tactic| walk_at "mf1") => `(tactic| first
  | ((with_reducible apply g_var); exact rfl)
  | with_reducible first
    | refine g_c ?_ | refine g_op ?_ | refine g_un ?_ | refine g_cb ?_ | refine g_cl ?_ | refine g_clX ?_ | refine g_mkR ?_ | refine g_clk ?_ | refine g_nil ?_ | refine g_cons ?_
    | refine g_tB ?_ | refine g_test ?_ | refine g_bl ?_ | refine g_and ?_ | refine g_or ?_ | refine g_not ?_ | refine g_andV ?_ | refine g_orV ?_ | refine g_notV ?_
    | refine g_if ?_ | refine g_ifS ?_ | refine g_seq ?_ | refine g_next ?_ | refine g_ret ?_ | refine g_drop ?_ | refine g_asg ?_ | refine g_name ?_ | refine g_sub ?_
    | refine g_int ?_ | refine g_intB ?_ | refine g_abs ?_ | refine g_I0 ?_ | refine g_addI ?_ | refine g_U ?_ | refine g_isNn ?_ | refine g_isNi ?_ | refine g_notN ?_ | refine g_notT1 ?_ | refine g_notT2 ?_ | refine g_notT3 ?_ | refine g_notT4 ?_ | refine g_notTb ?_ | refine g_notTi ?_ | refine g_eqI ?_ | refine g_neI ?_ | refine g_neSs ?_ | refine g_neS ?_ | refine g_eqS ?_
    | refine g_iteT ?_ | refine g_iteF ?_ | refine g_iteNT ?_ | refine g_iteNF ?_ | refine g_lst ?_ | refine g_tup ?_ | refine g_seqP ?_ | refine g_sl ?_ | refine g_noPart ?_ | refine g_part ?_ | refine g_yes ?_ | refine g_thenT ?_ | refine g_consG ?_ | refine g_nilG ?_ | refine g_ii ?_ | refine g_par ?_ | refine g_par3 ?_ | refine g_vv ?_ | refine g_vvv ?_ | refine g_reprB ?_ | refine g_lcL ?_ | refine g_lcR ?_
  | ((with_reducible refine g_mod ?_ ?_); (first | omega | decide))
  | ((with_reducible refine g_div ?_ ?_ ?_); (first | omega | decide); (first | assumption | decide))
  | ((with_reducible refine g_mulL ?_ ?_ ?_); (first | omega | decide); (first | omega | decide))
  | ((with_reducible refine g_mulR ?_ ?_ ?_); (first | omega | decide); (first | omega | decide))
  | ((with_reducible refine g_pow ?_ ?_ ?_ ?_); decide; decide; (first | omega | decide))
  | dsimp only)
local macro_rules | `(tactic| walk_at "mf1s") => `(tactic| first
  | ((with_reducible apply g_var); exact rfl)
  | with_reducible first
    | refine g_c ?_ | refine g_op ?_ | refine g_un ?_ | refine g_cb ?_ | refine g_cl ?_ | refine g_clX ?_ | refine g_mkR ?_ | refine g_clk ?_ | refine g_nil ?_ | refine g_cons ?_
    | refine g_tB ?_ | refine g_test ?_ | refine g_bl ?_ | refine g_and ?_ | refine g_or ?_ | refine g_not ?_ | refine g_andV ?_ | refine g_orV ?_ | refine g_notV ?_
    | refine g_if ?_ | refine g_ifS ?_ | refine g_next ?_ | refine g_ret ?_ | refine g_drop ?_ | refine g_asg ?_ | refine g_name ?_ | refine g_sub ?_
    | refine g_int ?_ | refine g_intB ?_ | refine g_abs ?_ | refine g_I0 ?_ | refine g_addI ?_ | refine g_U ?_ | refine g_isNn ?_ | refine g_isNi ?_ | refine g_notN ?_ | refine g_notT1 ?_ | refine g_notT2 ?_ | refine g_notT3 ?_ | refine g_notT4 ?_ | refine g_notTb ?_ | refine g_notTi ?_ | refine g_eqI ?_ | refine g_neI ?_ | refine g_neSs ?_ | refine g_neS ?_ | refine g_eqS ?_
    | refine g_iteT ?_ | refine g_iteF ?_ | refine g_iteNT ?_ | refine g_iteNF ?_ | refine g_lst ?_ | refine g_tup ?_ | refine g_seqP ?_ | refine g_sl ?_ | refine g_noPart ?_ | refine g_part ?_ | refine g_yes ?_ | refine g_thenT ?_ | refine g_consG ?_ | refine g_nilG ?_ | refine g_ii ?_ | refine g_par ?_ | refine g_par3 ?_ | refine g_vv ?_ | refine g_vvv ?_ | refine g_reprB ?_ | refine g_lcL ?_ | refine g_lcR ?_
  | ((with_reducible refine g_mod ?_ ?_); (first | omega | decide))
  | ((with_reducible refine g_div ?_ ?_ ?_); (first | omega | decide); (first | assumption | decide))
  | ((with_reducible refine g_mulL ?_ ?_ ?_); (first | omega | decide); (first | omega | decide))
  | ((with_reducible refine g_mulR ?_ ?_ ?_); (first | omega | decide); (first | omega | decide))
  | ((with_reducible refine g_pow ?_ ?_ ?_ ?_); decide; decide; (first | omega | decide))
  | dsimp only)
local macro_rules | `(tactic| walk_at "mfs") => `(tactic| repeat walk_at "mf1s")
local macro_rules | `(tactic| walk_at "mf") => `(tactic| repeat walk_at "mf1")
local macro_rules | `(tactic| walk_at "ed") => `(tactic| repeat (first
  | with_reducible first
    | exact eds_nil | apply eds_cons | exact ed_int | exact ed_bl | exact ed_non | apply ed_neg
  | ((with_reducible apply ed_str); decide)
  | ((with_reducible apply ed_var); (exact rfl); (first | assumption | exact Dq.int _))
  | ((with_reducible apply ed_dict0); assumption)
  | ((with_reducible apply ed_dict2); assumption)
  | ((with_reducible apply ed_tup); assumption)
  | ((with_reducible apply ed_lst); assumption)
  | (with_reducible apply ed_pow)
  | (with_reducible apply ed_mul)
  | assumption
  | (exact Dq.int _)
  | (exact ⟨by decide, by decide, by decide⟩)
  | (show List.length _ ≤ 1000; simp only [List.length_cons, List.length_nil]; decide)))
theorem okX_read_fraction (c : Cn) (T : Tx c) {CP CN CM CT F : Addr} (Er : Errs c CP CN CM CT F) : ClX c 4 "read_fraction" s_read_fraction ["value", "part"] (sp_readB CN c.K) := by
  have E_BadPoly := ec_BadPoly c Er.poly
  have E_BadNumber := ec_BadNumber c Er.num
  have E_Misfit := ec_Misfit c Er.mis
  have E_TooMany := ec_TooMany c Er.tm
  obtain ⟨P, w, K, mg, base⟩ := c
  have C_is_fraction := ok_is_fraction _ T
  have C_is_integer := ok_is_integer _ T
  have C_reduced := ok_reduced _ T
  refine De.clX (N := ["value", "part", "up", "down"]) T.d_read_fraction sc_read_fraction (fun vs H Q E h => ?_) (fun f0 cdv A outer s H vs Q E hA hr h => ?_)
  · obtain ⟨q, v, d, p, rfl, _⟩ := h; rfl
  · have S := sc_read_fraction
    obtain ⟨q, v, d, p, rfl, hd, hf, k⟩ := h
    refine ⟨_, (pss_cons (ps_if (pt_not (pt_val (pe_f C_is_fraction hA hr (by decide) pl_is_fraction (by rfl) (pa_cons (pv 0) pa_nil)))) (pss_one (ps_raise rfl (takes_of rfl rfl rfl rfl) (pmk_mkX E_BadNumber hA hr (by decide) (by rfl) (pa_cons (pv 1) pa_nil)))) pss_nil)
      (pss_cons (ps_if (pt_val (pe_f C_is_integer hA hr (by decide) pl_is_integer (by rfl) (pa_cons (pv 0) pa_nil))) (pss_one (ps_ret (pe_f C_reduced hA hr (by decide) pl_reduced (by rfl) (pa_cons (pv 0) (pa_cons pe_int pa_nil))))) pss_nil)
      (pss_cons (ps_asg (pv 0) (pg_or (pg_tup rfl (pgs_cons (pg_name (i := 2) S.nd rfl (by first | exact .inl rfl | exact .inr rfl)) (pgs_cons (pg_name (i := 3) S.nd rfl (by first | exact .inl rfl | exact .inr rfl)) pgs_nil))) (pg_unl rfl (pgs_cons (pg_name (i := 2) S.nd rfl (by first | exact .inl rfl | exact .inr rfl)) (pgs_cons (pg_name (i := 3) S.nd rfl (by first | exact .inl rfl | exact .inr rfl)) pgs_nil)))))
      (pss_one (ps_ret (pe_f C_reduced hA hr (by decide) pl_reduced (by rfl) (pa_cons (pv 2) (pa_cons (pv 3) pa_nil)))))))), ?_⟩
    walk_at "mf"
    refine ⟨q, v, d, rfl, hd, ?_⟩
    rw [hf]
    walk_at "mf"
    exact ⟨rfl, fun dd H' n' s' e => k dd H' n' s' e⟩
end Mf
namespace Mf
open PySem PySem.Spec PyProof.Rows L2
local macro_rules | `(tactic| walk_at "mf1") => `(tactic| first
  | ((with_reducible apply g_var); exact rfl)
  | with_reducible first
    | refine g_c ?_ | refine g_op ?_ | refine g_un ?_ | refine g_cb ?_ | refine g_cl ?_ | refine g_clX ?_ | refine g_mkR ?_ | refine g_clk ?_ | refine g_nil ?_ | refine g_cons ?_
    | refine g_tB ?_ | refine g_test ?_ | refine g_bl ?_ | refine g_and ?_ | refine g_or ?_ | refine g_not ?_ | refine g_andV ?_ | refine g_orV ?_ | refine g_notV ?_
    | refine g_if ?_ | refine g_ifS ?_ | refine g_seq ?_ | refine g_next ?_ | refine g_ret ?_ | refine g_drop ?_ | refine g_asg ?_ | refine g_name ?_ | refine g_sub ?_
    | refine g_int ?_ | refine g_intB ?_ | refine g_abs ?_ | refine g_I0 ?_ | refine g_addI ?_ | refine g_U ?_ | refine g_isNn ?_ | refine g_isNi ?_ | refine g_notN ?_ | refine g_notT1 ?_ | refine g_notT2 ?_ | refine g_notT3 ?_ | refine g_notT4 ?_ | refine g_notTb ?_ | refine g_notTi ?_ | refine g_eqI ?_ | refine g_neI ?_ | refine g_neSs ?_ | refine g_neS ?_ | refine g_eqS ?_
    | refine g_iteT ?_ | refine g_iteF ?_ | refine g_iteNT ?_ | refine g_iteNF ?_ | refine g_lst ?_ | refine g_tup ?_ | refine g_seqP ?_ | refine g_sl ?_ | refine g_noPart ?_ | refine g_part ?_ | refine g_yes ?_ | refine g_thenT ?_ | refine g_consG ?_ | refine g_nilG ?_ | refine g_ii ?_ | refine g_par ?_ | refine g_par3 ?_ | refine g_vv ?_ | refine g_vvv ?_ | refine g_reprB ?_ | refine g_lcL ?_ | refine g_lcR ?_
  | ((with_reducible refine g_mod ?_ ?_); (first | omega | decide))
  | ((with_reducible refine g_div ?_ ?_ ?_); (first | omega | decide); (first | assumption | decide))
  | ((with_reducible refine g_mulL ?_ ?_ ?_); (first | omega | decide); (first | omega | decide))
  | ((with_reducible refine g_mulR ?_ ?_ ?_); (first | omega | decide); (first | omega | decide))
  | ((with_reducible refine g_pow ?_ ?_ ?_ ?_); decide; decide; (first | omega | decide))
  | dsimp only)
local macro_rules | `(tactic| walk_at "mf1s") => `(tactic| first
  | ((with_reducible apply g_var); exact rfl)
  | with_reducible first
    | refine g_c ?_ | refine g_op ?_ | refine g_un ?_ | refine g_cb ?_ | refine g_cl ?_ | refine g_clX ?_ | refine g_mkR ?_ | refine g_clk ?_ | refine g_nil ?_ | refine g_cons ?_
    | refine g_tB ?_ | refine g_test ?_ | refine g_bl ?_ | refine g_and ?_ | refine g_or ?_ | refine g_not ?_ | refine g_andV ?_ | refine g_orV ?_ | refine g_notV ?_
    | refine g_if ?_ | refine g_ifS ?_ | refine g_next ?_ | refine g_ret ?_ | refine g_drop ?_ | refine g_asg ?_ | refine g_name ?_ | refine g_sub ?_
    | refine g_int ?_ | refine g_intB ?_ | refine g_abs ?_ | refine g_I0 ?_ | refine g_addI ?_ | refine g_U ?_ | refine g_isNn ?_ | refine g_isNi ?_ | refine g_notN ?_ | refine g_notT1 ?_ | refine g_notT2 ?_ | refine g_notT3 ?_ | refine g_notT4 ?_ | refine g_notTb ?_ | refine g_notTi ?_ | refine g_eqI ?_ | refine g_neI ?_ | refine g_neSs ?_ | refine g_neS ?_ | refine g_eqS ?_
    | refine g_iteT ?_ | refine g_iteF ?_ | refine g_iteNT ?_ | refine g_iteNF ?_ | refine g_lst ?_ | refine g_tup ?_ | refine g_seqP ?_ | refine g_sl ?_ | refine g_noPart ?_ | refine g_part ?_ | refine g_yes ?_ | refine g_thenT ?_ | refine g_consG ?_ | refine g_nilG ?_ | refine g_ii ?_ | refine g_par ?_ | refine g_par3 ?_ | refine g_vv ?_ | refine g_vvv ?_ | refine g_reprB ?_ | refine g_lcL ?_ | refine g_lcR ?_
  | ((with_reducible refine g_mod ?_ ?_); (first | omega | decide))
  | ((with_reducible refine g_div ?_ ?_ ?_); (first | omega | decide); (first | assumption | decide))
  | ((with_reducible refine g_mulL ?_ ?_ ?_); (first | omega | decide); (first | omega | decide))
  | ((with_reducible refine g_mulR ?_ ?_ ?_); (first | omega | decide); (first | omega | decide))
  | ((with_reducible refine g_pow ?_ ?_ ?_ ?_); decide; decide; (first | omega | decide))
  | dsimp only)
local macro_rules | `(tactic| walk_at "mfs") => `(tactic| repeat walk_at "mf1s")
local macro_rules | `(tactic| walk_at "mf") => `(tactic| repeat walk_at "mf1")
local macro_rules | `(tactic| walk_at "ed") => `(tactic| repeat (first
  | with_reducible first
    | exact eds_nil | apply eds_cons | exact ed_int | exact ed_bl | exact ed_non | apply ed_neg
  | ((with_reducible apply ed_str); decide)
  | ((with_reducible apply ed_var); (exact rfl); (first | assumption | exact Dq.int _))
  | ((with_reducible apply ed_dict0); assumption)
  | ((with_reducible apply ed_dict2); assumption)
  | ((with_reducible apply ed_tup); assumption)
  | ((with_reducible apply ed_lst); assumption)
  | (with_reducible apply ed_pow)
  | (with_reducible apply ed_mul)
  | assumption
  | (exact Dq.int _)
  | (exact ⟨by decide, by decide, by decide⟩)
  | (show List.length _ ≤ 1000; simp only [List.length_cons, List.length_nil]; decide)))
def BP (q : Addr) (K : PySem.W.Frag) (H : Hp) (v : V) : Prop := ∃ d, Dq q K H v d ∧ isPyD d = false ∧ (itD d).length ≤ 900
theorem BP.go {q : Addr} {K : PySem.W.Frag} {H H1 : Hp} {v : V} (s : Same H H1) (h : BP q K H v) : BP q K H1 v := by
  obtain ⟨d, h1, h2⟩ := h
  exact ⟨d, h1.go (Same.x s), h2⟩
def sp_rpolyB (C : Addr) (K : PySem.W.Frag) : Sp := fun vs H Q E => ∃ q v p, vs = [v, .str p] ∧ BP q K H v ∧ Er1 C p H E
def sp_onePB (C : Addr) (p : Str) (K : PySem.W.Frag) : Sp := fun vs H Q E => ∃ q v, vs = [v] ∧ BP q K H v ∧ Er1 C p H E
def sp_twoPB (C : Addr) (K : PySem.W.Frag) : Sp := fun vs H Q E => ∃ q v1 v2, vs = [v1, v2] ∧ ((BP q K H v1 ∧ Er1 C "one" H E) ∨ ∃ rs, GP q K H v1 rs ∧ BP q K H v2 ∧ Er1 C "other" H E)
def sp_ppB (C M : Addr) (K : PySem.W.Frag) : Sp := fun vs H Q E => sp_twoPB C K vs H Q E ∨ ∃ q v1 v2 rs, vs = [v1, v2] ∧ GP q K H v1 rs ∧ GP q K H v2 [] ∧ Er1 M "other" H E
def sp_valB (C N : Addr) (K : PySem.W.Frag) : Sp := fun vs H Q E => ∃ q v1 v2, vs = [v1, v2] ∧ ((BP q K H v1 ∧ Er1 C "poly" H E) ∨ ∃ rs, GP q K H v1 rs ∧ BF q K H v2 ∧ Er1 N "at" H E)
def sp_wb (K : PySem.W.Frag) : Sp := fun vs H Q _ => ∃ q v1 v2, vs = [v1, v2] ∧ GF q K H v1 ∧ GF q K H v2 ∧ Q .non H
def sp_wbB (N : Addr) (K : PySem.W.Frag) : Sp := fun vs H Q E => ∃ q v1 v2, vs = [v1, v2] ∧ ((BF q K H v1 ∧ Er1 N "low" H E) ∨ (GF q K H v1 ∧ BF q K H v2 ∧ Er1 N "high" H E))
def sp_wsB (M : Addr) (K : PySem.W.Frag) : Sp := fun vs H Q E => ∃ q v1 v2 r1 r2, vs = [v1, v2] ∧ H q ≠ none ∧ Fr q K H v1 r1 100 ∧ Fr q K H v2 r2 100 ∧ (r2 - r1).num ≤ 0 ∧ Er1 M "high" H E
theorem rp_bad {q : Addr} {K : PySem.W.Frag} {H : Hp} {v : V} {p : Str} {C : Addr} {Q : VK} {E : XK} (h : BP q K H v) (k : Er1 C p H E) : sp_rpoly K [v, .str p] H Q E ∨ sp_rpolyB C K [v, .str p] H Q E := .inr ⟨q, v, p, rfl, h, k⟩
theorem ok_sign_of (c : Cn) (T : Tx c) : Cl c 5 "sign_of" s_sign_of ["value"] (sp_sign c.K) := by
  obtain ⟨P, w, K, mg, base⟩ := c
  have C_read_fraction := ok_read_fraction _ T
  refine De.cl (N := ["value", "up", "_"]) T.d_sign_of sc_sign_of (fun vs H Q E h => ?_) (fun f0 cdv A outer s H vs Q E hA hr h => ?_)
  · obtain ⟨q, v, r, n, rfl, _⟩ := h; rfl
  · have S := sc_sign_of
    obtain ⟨q, v, r, n, rfl, hf, hn, k⟩ := h
    refine ⟨_, (pss_cons (ps_asg (pe_f C_read_fraction hA hr (by decide) pl_read_fraction (by rfl) (pa_cons (pv 0) (pa_cons pe_str pa_nil))) (pg_tup rfl (pgs_cons (pg_name (i := 1) S.nd rfl (by first | exact .inl rfl | exact .inr rfl)) (pgs_cons (pg_name (i := 2) S.nd rfl (by first | exact .inl rfl | exact .inr rfl)) pgs_nil))))
      (pss_cons (ps_if (pt_cmpR op_lt (pv 1) pe_int (nomark _)) (pss_one (ps_ret (pe_un un_neg pe_int))) pss_nil)
      (pss_cons (ps_if (pt_cmpR op_gt (pv 1) pe_int (nomark _)) (pss_one (ps_ret pe_int)) pss_nil)
      (pss_one (ps_ret pe_int))))), ?_⟩
    walk_at "mf"
    refine ⟨q, v, _, r, n, rfl, hf, hn, fun p H1 s1 n1 e1 => ?_⟩
    refine g_tupG (tupU e1) rfl ?_
    walk_at "mf"
    have k := k H1 s1
    unfold sgn at k
    refine g_ite (fun h => ?_) (fun h => ?_)
    · walk_at "mf"
      rw [if_pos (of_decide_eq_true h)] at k
      exact k
    · walk_at "mf"
      rw [if_neg (of_decide_eq_false h)] at k
      refine g_ite (fun h => ?_) (fun h => ?_)
      · walk_at "mf"
        rw [if_pos (of_decide_eq_true h)] at k
        exact k
      · walk_at "mf"
        rw [if_neg (of_decide_eq_false h)] at k
        exact k
theorem okX_read_poly (c : Cn) (T : Tx c) {CP CN CM CT F : Addr} (Er : Errs c CP CN CM CT F) : ClX c 6 "read_poly" s_read_poly ["value", "part"] (sp_rpolyB CP c.K) := by
  have E_BadPoly := ec_BadPoly c Er.poly
  have E_BadNumber := ec_BadNumber c Er.num
  have E_Misfit := ec_Misfit c Er.mis
  have E_TooMany := ec_TooMany c Er.tm
  obtain ⟨P, w, K, mg, base⟩ := c
  have C_fraction_of := ok_fraction_of _ T
  have C_is_poly := ok_is_poly _ T
  have C_trimmed := ok_trimmed _ T
  refine De.clX (N := ["value", "part", "number"]) T.d_read_poly sc_read_poly (fun vs H Q E h => ?_) (fun f0 cdv A outer s H vs Q E hA hr h => ?_)
  · obtain ⟨q, v, p, rfl, _⟩ := h; rfl
  · have S := sc_read_poly
    obtain ⟨q, v, p, rfl, ⟨d, hd, hbad, hl⟩, k⟩ := h
    refine ⟨_, (pss_cons (ps_if (pt_not (pt_val (pe_f C_is_poly hA hr (by decide) pl_is_poly (by rfl) (pa_cons (pv 0) pa_nil)))) (pss_one (ps_raise rfl (takes_of rfl rfl rfl rfl) (pmk_mkX E_BadPoly hA hr (by decide) (by rfl) (pa_cons (pv 1) pa_nil)))) pss_nil)
      (pss_one (ps_ret (pe_f C_trimmed hA hr (by decide) pl_trimmed (by rfl) (pa_cons (pe_lc (own := [("number", 2)]) (g := gName 2) (tt := tYes) rfl S.nd (pi_or (pi_list (pv 0)) (pi_tup (pv 0))) (blkOk_by (N := ["value", "part", "number"]) (sc := defScope s_read_poly) (by decide +kernel)) (fun _ _ _ _ _ => pg_name (i := 2) S.nd rfl (Or.inl rfl)) (fun _ _ _ _ _ => pts_nil) (fun _ _ _ _ _ => (pe_f C_fraction_of hA hr (by decide) pl_fraction_of (by rfl) (pa_cons (pv 2) pa_nil)))) pa_nil))))), ?_⟩
    walk_at "mf"
    refine ⟨q, v, d, rfl, hd, hl, fun H1 s1 => ?_⟩
    rw [hbad]
    walk_at "mf"
    exact ⟨rfl, fun dd H' n' s' e => (k.go s1) dd H' n' s' e⟩
end Mf
namespace Mf
open PySem PySem.Spec PyProof.Rows L2
local macro_rules | `(tactic| walk_at "mf1") => `(tactic| first
  | ((with_reducible apply g_var); exact rfl)
  | with_reducible first
    | refine g_c ?_ | refine g_op ?_ | refine g_un ?_ | refine g_cb ?_ | refine g_cl ?_ | refine g_clX ?_ | refine g_mkR ?_ | refine g_clk ?_ | refine g_nil ?_ | refine g_cons ?_
    | refine g_tB ?_ | refine g_test ?_ | refine g_bl ?_ | refine g_and ?_ | refine g_or ?_ | refine g_not ?_ | refine g_andV ?_ | refine g_orV ?_ | refine g_notV ?_
    | refine g_if ?_ | refine g_ifS ?_ | refine g_seq ?_ | refine g_next ?_ | refine g_ret ?_ | refine g_drop ?_ | refine g_asg ?_ | refine g_name ?_ | refine g_sub ?_
    | refine g_int ?_ | refine g_intB ?_ | refine g_abs ?_ | refine g_I0 ?_ | refine g_addI ?_ | refine g_U ?_ | refine g_isNn ?_ | refine g_isNi ?_ | refine g_notN ?_ | refine g_notT1 ?_ | refine g_notT2 ?_ | refine g_notT3 ?_ | refine g_notT4 ?_ | refine g_notTb ?_ | refine g_notTi ?_ | refine g_eqI ?_ | refine g_neI ?_ | refine g_neSs ?_ | refine g_neS ?_ | refine g_eqS ?_
    | refine g_iteT ?_ | refine g_iteF ?_ | refine g_iteNT ?_ | refine g_iteNF ?_ | refine g_lst ?_ | refine g_tup ?_ | refine g_seqP ?_ | refine g_sl ?_ | refine g_noPart ?_ | refine g_part ?_ | refine g_yes ?_ | refine g_thenT ?_ | refine g_consG ?_ | refine g_nilG ?_ | refine g_ii ?_ | refine g_par ?_ | refine g_par3 ?_ | refine g_vv ?_ | refine g_vvv ?_ | refine g_reprB ?_ | refine g_lcL ?_ | refine g_lcR ?_
  | ((with_reducible refine g_mod ?_ ?_); (first | omega | decide))
  | ((with_reducible refine g_div ?_ ?_ ?_); (first | omega | decide); (first | assumption | decide))
  | ((with_reducible refine g_mulL ?_ ?_ ?_); (first | omega | decide); (first | omega | decide))
  | ((with_reducible refine g_mulR ?_ ?_ ?_); (first | omega | decide); (first | omega | decide))
  | ((with_reducible refine g_pow ?_ ?_ ?_ ?_); decide; decide; (first | omega | decide))
  | dsimp only)
local macro_rules | `(tactic| walk_at "mf1s") => `(tactic| first
  | ((with_reducible apply g_var); exact rfl)
  | with_reducible first
    | refine g_c ?_ | refine g_op ?_ | refine g_un ?_ | refine g_cb ?_ | refine g_cl ?_ | refine g_clX ?_ | refine g_mkR ?_ | refine g_clk ?_ | refine g_nil ?_ | refine g_cons ?_
    | refine g_tB ?_ | refine g_test ?_ | refine g_bl ?_ | refine g_and ?_ | refine g_or ?_ | refine g_not ?_ | refine g_andV ?_ | refine g_orV ?_ | refine g_notV ?_
    | refine g_if ?_ | refine g_ifS ?_ | refine g_next ?_ | refine g_ret ?_ | refine g_drop ?_ | refine g_asg ?_ | refine g_name ?_ | refine g_sub ?_
    | refine g_int ?_ | refine g_intB ?_ | refine g_abs ?_ | refine g_I0 ?_ | refine g_addI ?_ | refine g_U ?_ | refine g_isNn ?_ | refine g_isNi ?_ | refine g_notN ?_ | refine g_notT1 ?_ | refine g_notT2 ?_ | refine g_notT3 ?_ | refine g_notT4 ?_ | refine g_notTb ?_ | refine g_notTi ?_ | refine g_eqI ?_ | refine g_neI ?_ | refine g_neSs ?_ | refine g_neS ?_ | refine g_eqS ?_
    | refine g_iteT ?_ | refine g_iteF ?_ | refine g_iteNT ?_ | refine g_iteNF ?_ | refine g_lst ?_ | refine g_tup ?_ | refine g_seqP ?_ | refine g_sl ?_ | refine g_noPart ?_ | refine g_part ?_ | refine g_yes ?_ | refine g_thenT ?_ | refine g_consG ?_ | refine g_nilG ?_ | refine g_ii ?_ | refine g_par ?_ | refine g_par3 ?_ | refine g_vv ?_ | refine g_vvv ?_ | refine g_reprB ?_ | refine g_lcL ?_ | refine g_lcR ?_
  | ((with_reducible refine g_mod ?_ ?_); (first | omega | decide))
  | ((with_reducible refine g_div ?_ ?_ ?_); (first | omega | decide); (first | assumption | decide))
  | ((with_reducible refine g_mulL ?_ ?_ ?_); (first | omega | decide); (first | omega | decide))
  | ((with_reducible refine g_mulR ?_ ?_ ?_); (first | omega | decide); (first | omega | decide))
  | ((with_reducible refine g_pow ?_ ?_ ?_ ?_); decide; decide; (first | omega | decide))
  | dsimp only)
local macro_rules | `(tactic| walk_at "mfs") => `(tactic| repeat walk_at "mf1s")
local macro_rules | `(tactic| walk_at "mf") => `(tactic| repeat walk_at "mf1")
local macro_rules | `(tactic| walk_at "ed") => `(tactic| repeat (first
  | with_reducible first
    | exact eds_nil | apply eds_cons | exact ed_int | exact ed_bl | exact ed_non | apply ed_neg
  | ((with_reducible apply ed_str); decide)
  | ((with_reducible apply ed_var); (exact rfl); (first | assumption | exact Dq.int _))
  | ((with_reducible apply ed_dict0); assumption)
  | ((with_reducible apply ed_dict2); assumption)
  | ((with_reducible apply ed_tup); assumption)
  | ((with_reducible apply ed_lst); assumption)
  | (with_reducible apply ed_pow)
  | (with_reducible apply ed_mul)
  | assumption
  | (exact Dq.int _)
  | (exact ⟨by decide, by decide, by decide⟩)
  | (show List.length _ ≤ 1000; simp only [List.length_cons, List.length_nil]; decide)))
theorem okX_slope_of (c : Cn) (T : Tx c) {CP CN CM CT F : Addr} (Er : Errs c CP CN CM CT F) : ClX c 7 "slope_of" s_slope_of ["poly"] (sp_onePB CP "poly" c.K) := by
  have E_BadPoly := ec_BadPoly c Er.poly
  have E_BadNumber := ec_BadNumber c Er.num
  have E_Misfit := ec_Misfit c Er.mis
  have E_TooMany := ec_TooMany c Er.tm
  obtain ⟨P, w, K, mg, base⟩ := c
  have C_multiplied := ok_multiplied _ T
  have CX_read_poly := ClX.or (ok_read_poly _ T) (okX_read_poly _ T Er) (Nat.le_refl _) (Nat.le_refl _)
  refine De.clX (N := ["poly", "numbers", "k", "number"]) T.d_slope_of sc_slope_of (fun vs H Q E h => ?_) (fun f0 cdv A outer s H vs Q E hA hr h => ?_)
  · obtain ⟨q, v, rfl, _⟩ := h; rfl
  · have S := sc_slope_of
    obtain ⟨q, v, rfl, hb, k⟩ := h
    refine ⟨_, (pss_cons (ps_set (i := 1) S.nd rfl (by first | exact .inl rfl | exact .inr rfl) (pe_fX CX_read_poly hA hr (by decide) pl_read_poly (by rfl) (fun σ => passAt (takes_of rfl rfl rfl rfl) σ) (pa_cons (pv 0) (pa_cons pe_str pa_nil))))
      (pss_one (ps_ret (pe_tupleOf (by rfl) T.n_tuple (pe_lc (own := [("k", 2), ("number", 3)]) (g := g2 K 2 3) rfl S.nd (pi_enumT (by rfl) T.n_enumerate (pa_cons (pv 1) pa_nil)) (blkOk_by (N := ["poly", "numbers", "k", "number"]) (sc := defScope s_slope_of) (by decide +kernel)) (fun _ _ _ _ _ => pg_tup rfl (pgs_cons (pg_name (i := 2) S.nd rfl (Or.inl rfl)) (pgs_cons (pg_name (i := 3) S.nd rfl (Or.inl rfl)) pgs_nil))) (fun _ _ _ _ _ => pts_one (pt_cmpR op_gt (pv 2) pe_int (nomark _))) (fun _ _ _ _ _ => (pe_f C_multiplied hA hr (by decide) pl_multiplied (by rfl) (pa_cons (pv 2) (pa_cons (pv 3) pa_nil))))))))), ?_⟩
    walk_at "mf"
    exact rp_bad hb k
theorem okX_rests_of (c : Cn) (T : Tx c) {CP CN CM CT F : Addr} (Er : Errs c CP CN CM CT F) : ClX c 7 "rests_of" s_rests_of ["poly"] (sp_onePB CP "poly" c.K) := by
  have E_BadPoly := ec_BadPoly c Er.poly
  have E_BadNumber := ec_BadNumber c Er.num
  have E_Misfit := ec_Misfit c Er.mis
  have E_TooMany := ec_TooMany c Er.tm
  obtain ⟨P, w, K, mg, base⟩ := c
  have C_multiplied := ok_multiplied _ T
  have C_over_one_down := ok_over_one_down _ T
  have C_reduced := ok_reduced _ T
  have C_row_of := ok_row_of _ T
  have C_times_scale := ok_times_scale _ T
  have CX_read_poly := ClX.or (ok_read_poly _ T) (okX_read_poly _ T Er) (Nat.le_refl _) (Nat.le_refl _)
  refine De.clX (N := ["poly", "ups", "down", "scales", "rests", "k", "numbers", "common", "times", "before", "number"]) T.d_rests_of sc_rests_of (fun vs H Q E h => ?_) (fun f0 cdv A outer s H vs Q E hA hr h => ?_)
  · obtain ⟨q, v, rfl, _⟩ := h; rfl
  · have S := sc_rests_of
    obtain ⟨q, v, rfl, hb, k⟩ := h
    refine ⟨_, (pss_cons (ps_asg (pe_f C_over_one_down hA hr (by decide) pl_over_one_down (by rfl) (pa_cons (pe_fX CX_read_poly hA hr (by decide) pl_read_poly (by rfl) (fun σ => passAt (takes_of rfl rfl rfl rfl) σ) (pa_cons (pv 0) (pa_cons pe_str pa_nil))) pa_nil)) (pg_tup rfl (pgs_cons (pg_name (i := 1) S.nd rfl (by first | exact .inl rfl | exact .inr rfl)) (pgs_cons (pg_name (i := 2) S.nd rfl (by first | exact .inl rfl | exact .inr rfl)) pgs_nil))))
      (pss_cons (ps_asg (pe_tup (pa_cons (pe_lst pa_nil) (pa_cons (pe_lst pa_nil) pa_nil))) (pg_tup rfl (pgs_cons (pg_name (i := 3) S.nd rfl (by first | exact .inl rfl | exact .inr rfl)) (pgs_cons (pg_name (i := 4) S.nd rfl (by first | exact .inl rfl | exact .inr rfl)) pgs_nil))))
      (pss_cons (ps_for (by with_unfolding_all passes_own) rfl (pi_or (pi_enum (by rfl) T.n_enumerate (pa_cons (pe_f C_row_of hA hr (by decide) pl_row_of (by rfl) (pa_cons (pv 1) pa_nil)) pa_nil)) (pi_enumT (by rfl) T.n_enumerate (pa_cons (pe_f C_row_of hA hr (by decide) pl_row_of (by rfl) (pa_cons (pv 1) pa_nil)) pa_nil))) (pg_tup rfl (pgs_cons (pg_name (i := 5) S.nd rfl (by first | exact .inl rfl | exact .inr rfl)) (pgs_cons (pg_tup rfl (pgs_cons (pg_name (i := 6) S.nd rfl (by first | exact .inl rfl | exact .inr rfl)) (pgs_cons (pg_name (i := 7) S.nd rfl (by first | exact .inl rfl | exact .inr rfl)) (pgs_cons (pg_name (i := 8) S.nd rfl (by first | exact .inl rfl | exact .inr rfl)) pgs_nil)))) pgs_nil))) (pss_cons (ps_set (i := 9) S.nd rfl (by first | exact .inl rfl | exact .inr rfl) (pe_ifExp (pt_cmpR op_lt (pv 5) pe_int (nomark _)) (pe_tup (pa_cons pe_int (pa_cons (pv 2) pa_nil))) (pe_ix ix_seq (pv 3) (pe_op op_sub (pv 5) pe_int) (fun _ _ => rfl))))
      (pss_cons (ps_expr (pe_bm PySem.F.plainAttrs_list PySem.F.slot_list_append PySem.F.type_list_append mt_append (pv 3) (pa_cons (pe_f C_multiplied hA hr (by decide) pl_multiplied (by rfl) (pa_cons (pv 9) (pa_cons (pe_f C_reduced hA hr (by decide) pl_reduced (by rfl) (pa_cons (pv 7) (pa_cons (pv 8) pa_nil))) pa_nil))) pa_nil)))
      (pss_one (ps_expr (pe_bm PySem.F.plainAttrs_list PySem.F.slot_list_append PySem.F.type_list_append mt_append (pv 4) (pa_cons (pe_tupleOf (by rfl) T.n_tuple (pe_lc (own := [("number", 10)]) (g := gName 10) (tt := tYes) rfl S.nd (pi_list (pv 6)) (blkOk_by (N := ["poly", "ups", "down", "scales", "rests", "k", "numbers", "common", "times", "before", "number"]) (sc := defScope s_rests_of) (by decide +kernel)) (fun _ _ _ _ _ => pg_name (i := 10) S.nd rfl (Or.inl rfl)) (fun _ _ _ _ _ => pts_nil) (fun _ _ _ _ _ => (pe_f C_times_scale hA hr (by decide) pl_times_scale (by rfl) (pa_cons (pv 10) (pa_cons (pe_ix (show IxR _ (rIx K) from ix_seq) (pv 3) (pv 5) (fun _ _ => rfl)) pa_nil)))))) pa_nil)))))))
      (pss_one (ps_ret (pe_tupleOf (by rfl) T.n_tuple (pv 4))))))), ?_⟩
    walk_at "mf"
    exact rp_bad hb k
theorem okX_poly_of (c : Cn) (T : Tx c) {CP CN CM CT F : Addr} (Er : Errs c CP CN CM CT F) : ClX c 7 "poly_of" s_poly_of ["value"] (sp_onePB CP "value" c.K) := by
  have E_BadPoly := ec_BadPoly c Er.poly
  have E_BadNumber := ec_BadNumber c Er.num
  have E_Misfit := ec_Misfit c Er.mis
  have E_TooMany := ec_TooMany c Er.tm
  obtain ⟨P, w, K, mg, base⟩ := c
  have CX_read_poly := ClX.or (ok_read_poly _ T) (okX_read_poly _ T Er) (Nat.le_refl _) (Nat.le_refl _)
  refine De.clX (N := ["value"]) T.d_poly_of sc_poly_of (fun vs H Q E h => ?_) (fun f0 cdv A outer s H vs Q E hA hr h => ?_)
  · obtain ⟨q, v, rfl, _⟩ := h; rfl
  · have S := sc_poly_of
    obtain ⟨q, v, rfl, hb, k⟩ := h
    refine ⟨_, (pss_one (ps_ret (pe_fX CX_read_poly hA hr (by decide) pl_read_poly (by rfl) (fun σ => passAt (takes_of rfl rfl rfl rfl) σ) (pa_cons (pv 0) (pa_cons pe_str pa_nil))))), ?_⟩
    walk_at "mf"
    exact rp_bad hb k
theorem okX_value_at (c : Cn) (T : Tx c) {CP CN CM CT F : Addr} (Er : Errs c CP CN CM CT F) : ClX c 7 "value_at" s_value_at ["poly", "at"] (sp_valB CP CN c.K) := by
  have E_BadPoly := ec_BadPoly c Er.poly
  have E_BadNumber := ec_BadNumber c Er.num
  have E_Misfit := ec_Misfit c Er.mis
  have E_TooMany := ec_TooMany c Er.tm
  obtain ⟨P, w, K, mg, base⟩ := c
  have C_added := ok_added _ T
  have C_is_fraction := ok_is_fraction _ T
  have C_multiplied := ok_multiplied _ T
  have CX_read_poly := ClX.or (ok_read_poly _ T) (okX_read_poly _ T Er) (Nat.le_refl _) (Nat.le_refl _)
  refine De.clX (N := ["poly", "at", "numbers", "total", "number"]) T.d_value_at sc_value_at (fun vs H Q E h => ?_) (fun f0 cdv A outer s H vs Q E hA hr h => ?_)
  · obtain ⟨q, v1, v2, rfl, _⟩ := h; rfl
  · have S := sc_value_at
    obtain ⟨q, v1, v2, rfl, h⟩ := h
    refine ⟨_, (pss_cons (ps_set (i := 2) S.nd rfl (by first | exact .inl rfl | exact .inr rfl) (pe_fX CX_read_poly hA hr (by decide) pl_read_poly (by rfl) (fun σ => passAt (takes_of rfl rfl rfl rfl) σ) (pa_cons (pv 0) (pa_cons pe_str pa_nil))))
      (pss_cons (ps_if (pt_not (pt_val (pe_f C_is_fraction hA hr (by decide) pl_is_fraction (by rfl) (pa_cons (pv 1) pa_nil)))) (pss_one (ps_raise rfl (takes_of rfl rfl rfl rfl) (pmk_mkX E_BadNumber hA hr (by decide) (by rfl) (pa_cons pe_str pa_nil)))) pss_nil)
      (pss_cons (ps_set (i := 3) S.nd rfl (by first | exact .inl rfl | exact .inr rfl) (pe_tup (pa_cons pe_int (pa_cons pe_int pa_nil))))
      (pss_cons (ps_for (by with_unfolding_all passes_own) rfl (RT.pi_revA (by rfl) T.n_reversed (pv 2)) (pg_name (i := 4) S.nd rfl (by first | exact .inl rfl | exact .inr rfl)) (pss_one (ps_set (i := 3) S.nd rfl (by first | exact .inl rfl | exact .inr rfl) (pe_f C_added hA hr (by decide) pl_added (by rfl) (pa_cons (pe_f C_multiplied hA hr (by decide) pl_multiplied (by rfl) (pa_cons (pv 3) (pa_cons (pv 1) pa_nil))) (pa_cons (pv 4) pa_nil))))))
      (pss_one (ps_ret (pv 3))))))), ?_⟩
    rcases h with ⟨hb, k⟩ | ⟨rs, hg, ⟨d, hd, hf⟩, k⟩
    · walk_at "mf"
      exact rp_bad hb k
    · walk_at "mf"
      refine .inl (rp_ok hg fun p1 H1 ws s1 n1 e1 t1 => ?_)
      walk_at "mf"
      refine ⟨q, v2, d, rfl, hd.go (Same.x s1), ?_⟩
      rw [hf]
      walk_at "mf"
      exact ⟨rfl, fun dd H' n' s' e => (k.go s1) dd H' n' s' e⟩
theorem okX_poly_sum (c : Cn) (T : Tx c) {CP CN CM CT F : Addr} (Er : Errs c CP CN CM CT F) : ClX c 7 "poly_sum" s_poly_sum ["one", "other"] (sp_twoPB CP c.K) := by
  have E_BadPoly := ec_BadPoly c Er.poly
  have E_BadNumber := ec_BadNumber c Er.num
  have E_Misfit := ec_Misfit c Er.mis
  have E_TooMany := ec_TooMany c Er.tm
  obtain ⟨P, w, K, mg, base⟩ := c
  have C_added := ok_added _ T
  have C_trimmed := ok_trimmed _ T
  have CX_read_poly := ClX.or (ok_read_poly _ T) (okX_read_poly _ T Er) (Nat.le_refl _) (Nat.le_refl _)
  refine De.clX (N := ["one", "other", "first", "second", "total", "k", "number"]) T.d_poly_sum sc_poly_sum (fun vs H Q E h => ?_) (fun f0 cdv A outer s H vs Q E hA hr h => ?_)
  · obtain ⟨q, v1, v2, rfl, _⟩ := h; rfl
  · have S := sc_poly_sum
    obtain ⟨q, v1, v2, rfl, h⟩ := h
    refine ⟨_, (pss_cons (ps_par (i := 2) (j := 3) (by rfl) S.nd rfl rfl (by decide) rfl rfl (pa_cons (pe_fX CX_read_poly hA hr (by decide) pl_read_poly (by rfl) (fun σ => passAt (takes_of rfl rfl rfl rfl) σ) (pa_cons (pv 0) (pa_cons pe_str pa_nil))) (pa_cons (pe_fX CX_read_poly hA hr (by decide) pl_read_poly (by rfl) (fun σ => passAt (takes_of rfl rfl rfl rfl) σ) (pa_cons (pv 1) (pa_cons pe_str pa_nil))) pa_nil)) (by rfl))
      (pss_cons (ps_set (i := 4) S.nd rfl (by first | exact .inl rfl | exact .inr rfl) (pe_lst pa_nil))
      (pss_cons (ps_for (by with_unfolding_all passes_own) rfl (pi_range1 rfl T.n_range (pa_cons (pe_callB (call_max2R rfl) (by rfl) T.n_max (show bootBuiltins "max" = some (.builtin "max") by decide +kernel) (pa_cons (pe_callB call_lenU (by rfl) T.n_len PySem.boot_len (pa_cons (pv 2) pa_nil)) (pa_cons (pe_callB call_lenU (by rfl) T.n_len PySem.boot_len (pa_cons (pv 3) pa_nil)) pa_nil))) pa_nil)) (pg_name (i := 5) S.nd rfl (by first | exact .inl rfl | exact .inr rfl)) (pss_cons (ps_set (i := 6) S.nd rfl (by first | exact .inl rfl | exact .inr rfl) (pe_ifExp (pt_cmpR op_lt (pv 5) (pe_callB call_lenU (by rfl) T.n_len PySem.boot_len (pa_cons (pv 2) pa_nil)) (nomark _)) (pe_ix ix_seq (pv 2) (pv 5) (fun _ _ => rfl)) pe_int))
      (pss_one (ps_expr (pe_bm PySem.F.plainAttrs_list PySem.F.slot_list_append PySem.F.type_list_append mt_append (pv 4) (pa_cons (pe_f C_added hA hr (by decide) pl_added (by rfl) (pa_cons (pv 6) (pa_cons (pe_ifExp (pt_cmpR op_lt (pv 5) (pe_callB call_lenU (by rfl) T.n_len PySem.boot_len (pa_cons (pv 3) pa_nil)) (nomark _)) (pe_ix ix_seq (pv 3) (pv 5) (fun _ _ => rfl)) pe_int) pa_nil))) pa_nil))))))
      (pss_one (ps_ret (pe_f C_trimmed hA hr (by decide) pl_trimmed (by rfl) (pa_cons (pv 4) pa_nil))))))), ?_⟩
    rcases h with ⟨hb, k⟩ | ⟨rs, hg, hb, k⟩
    · walk_at "mf"
      exact rp_bad hb k
    · walk_at "mf"
      refine .inl (rp_ok hg fun p1 H1 ws s1 n1 e1 t1 => ?_)
      walk_at "mf"
      exact rp_bad (hb.go s1) (k.go s1)
theorem okX_poly_times (c : Cn) (T : Tx c) {CP CN CM CT F : Addr} (Er : Errs c CP CN CM CT F) : ClX c 7 "poly_times" s_poly_times ["one", "other"] (sp_twoPB CP c.K) := by
  have E_BadPoly := ec_BadPoly c Er.poly
  have E_BadNumber := ec_BadNumber c Er.num
  have E_Misfit := ec_Misfit c Er.mis
  have E_TooMany := ec_TooMany c Er.tm
  obtain ⟨P, w, K, mg, base⟩ := c
  have C_over_one_down := ok_over_one_down _ T
  have C_reduced := ok_reduced _ T
  have C_times_whole := ok_times_whole _ T
  have CX_read_poly := ClX.or (ok_read_poly _ T) (okX_read_poly _ T Er) (Nat.le_refl _) (Nat.le_refl _)
  refine De.clX (N := ["one", "other", "first", "down", "second", "below", "product", "up"]) T.d_poly_times sc_poly_times (fun vs H Q E h => ?_) (fun f0 cdv A outer s H vs Q E hA hr h => ?_)
  · obtain ⟨q, v1, v2, rfl, _⟩ := h; rfl
  · have S := sc_poly_times
    obtain ⟨q, v1, v2, rfl, h⟩ := h
    refine ⟨_, (pss_cons (ps_asg (pe_tup (pa_cons (pe_f C_over_one_down hA hr (by decide) pl_over_one_down (by rfl) (pa_cons (pe_fX CX_read_poly hA hr (by decide) pl_read_poly (by rfl) (fun σ => passAt (takes_of rfl rfl rfl rfl) σ) (pa_cons (pv 0) (pa_cons pe_str pa_nil))) pa_nil)) (pa_cons (pe_f C_over_one_down hA hr (by decide) pl_over_one_down (by rfl) (pa_cons (pe_fX CX_read_poly hA hr (by decide) pl_read_poly (by rfl) (fun σ => passAt (takes_of rfl rfl rfl rfl) σ) (pa_cons (pv 1) (pa_cons pe_str pa_nil))) pa_nil)) pa_nil))) (pg_tup rfl (pgs_cons (pg_tup rfl (pgs_cons (pg_name (i := 2) S.nd rfl (by first | exact .inl rfl | exact .inr rfl)) (pgs_cons (pg_name (i := 3) S.nd rfl (by first | exact .inl rfl | exact .inr rfl)) pgs_nil))) (pgs_cons (pg_tup rfl (pgs_cons (pg_name (i := 4) S.nd rfl (by first | exact .inl rfl | exact .inr rfl)) (pgs_cons (pg_name (i := 5) S.nd rfl (by first | exact .inl rfl | exact .inr rfl)) pgs_nil))) pgs_nil))))
      (pss_cons (ps_set (i := 6) S.nd rfl (by first | exact .inl rfl | exact .inr rfl) (pe_f C_times_whole hA hr (by decide) pl_times_whole (by rfl) (pa_cons (pv 2) (pa_cons (pv 4) pa_nil))))
      (pss_cons (ps_if (pt_cmpR op_gt (pe_callB call_lenU (by rfl) T.n_len PySem.boot_len (pa_cons (pv 6) pa_nil)) (pe_globI (i := 80) (by rfl) T.c_MOST_NUMBERS) (nomark _)) (pss_one (ps_raise rfl (takes_of rfl rfl rfl rfl) (pmk_mkX E_TooMany hA hr (by decide) (by rfl) (pa_cons pe_str (pa_cons (pe_globI (i := 80) (by rfl) T.c_MOST_NUMBERS) pa_nil))))) pss_nil)
      (pss_one (ps_ret (pe_tupleOf (by rfl) T.n_tuple (pe_lc (own := [("up", 7)]) (g := gName 7) (tt := tYes) rfl S.nd (pi_list (pv 6)) (blkOk_by (N := ["one", "other", "first", "down", "second", "below", "product", "up"]) (sc := defScope s_poly_times) (by decide +kernel)) (fun _ _ _ _ _ => pg_name (i := 7) S.nd rfl (Or.inl rfl)) (fun _ _ _ _ _ => pts_nil) (fun _ _ _ _ _ => (pe_f C_reduced hA hr (by decide) pl_reduced (by rfl) (pa_cons (pv 7) (pa_cons (pe_op op_mulU (pv 3) (pv 5)) pa_nil))))))))))), ?_⟩
    rcases h with ⟨hb, k⟩ | ⟨rs, hg, hb, k⟩
    · walk_at "mf"
      exact rp_bad hb k
    · walk_at "mf"
      refine .inl (rp_ok hg fun p1 H1 ws s1 n1 e1 t1 => ?_)
      walk_at "mf"
      refine oo_ok e1 t1 hg.rb hg.len fun p2 H2 L us s2 n2 e2 eL lu => ?_
      walk_at "mf"
      exact rp_bad ((hb.go s1).go s2) ((k.go s1).go s2)
theorem okX_poly_parted (c : Cn) (T : Tx c) {CP CN CM CT F : Addr} (Er : Errs c CP CN CM CT F) : ClX c 7 "poly_parted" s_poly_parted ["one", "other"] (sp_ppB CP CM c.K) := by
  have E_BadPoly := ec_BadPoly c Er.poly
  have E_BadNumber := ec_BadNumber c Er.num
  have E_Misfit := ec_Misfit c Er.mis
  have E_TooMany := ec_TooMany c Er.tm
  obtain ⟨P, w, K, mg, base⟩ := c
  have C_parted := ok_parted _ T
  have CX_read_poly := ClX.or (ok_read_poly _ T) (okX_read_poly _ T Er) (Nat.le_refl _) (Nat.le_refl _)
  refine De.clX (N := ["one", "other", "first", "second"]) T.d_poly_parted sc_poly_parted (fun vs H Q E h => ?_) (fun f0 cdv A outer s H vs Q E hA hr h => ?_)
  · rcases h with ⟨q, v1, v2, rfl, _⟩ | ⟨q, v1, v2, rs, rfl, _⟩ <;> rfl
  · have S := sc_poly_parted
    skip
    refine ⟨_, (pss_cons (ps_par (i := 2) (j := 3) (by rfl) S.nd rfl rfl (by decide) rfl rfl (pa_cons (pe_fX CX_read_poly hA hr (by decide) pl_read_poly (by rfl) (fun σ => passAt (takes_of rfl rfl rfl rfl) σ) (pa_cons (pv 0) (pa_cons pe_str pa_nil))) (pa_cons (pe_fX CX_read_poly hA hr (by decide) pl_read_poly (by rfl) (fun σ => passAt (takes_of rfl rfl rfl rfl) σ) (pa_cons (pv 1) (pa_cons pe_str pa_nil))) pa_nil)) (by rfl))
      (pss_cons (ps_if (pt_not (pt_truth (pv 3) (fun _ => rfl))) (pss_one (ps_raise rfl (takes_of rfl rfl rfl rfl) (pmk_mkX E_Misfit hA hr (by decide) (by rfl) (pa_cons pe_str pa_nil)))) pss_nil)
      (pss_one (ps_ret (pe_f C_parted hA hr (by decide) pl_parted (by rfl) (pa_cons (pv 2) (pa_cons (pv 3) pa_nil))))))), ?_⟩
    rcases h with ⟨q, v1, v2, rfl, h⟩ | ⟨q, v1, v2, rs, rfl, hg, hg2, k⟩
    · rcases h with ⟨hb, k⟩ | ⟨rs, hg, hb, k⟩
      · walk_at "mf"
        exact rp_bad hb k
      · walk_at "mf"
        refine .inl (rp_ok hg fun p1 H1 ws s1 n1 e1 t1 => ?_)
        walk_at "mf"
        exact rp_bad (hb.go s1) (k.go s1)
    · walk_at "mf"
      refine .inl (rp_ok hg fun p1 H1 ws s1 n1 e1 t1 => ?_)
      walk_at "mf"
      refine .inl (rp_ok (hg2.go s1) fun p2 H2 ws2 s2 n2 e2 t2 => ?_)
      walk_at "mf"
      have z : ws2 = [] := by cases t2; rfl
      subst z
      refine ⟨false, .inr (.inl ⟨[], tupU e2, rfl⟩), ?_⟩
      walk_at "mf"
      exact ⟨rfl, fun dd H' n' s' e => ((k.go s1).go s2) dd H' n' s' e⟩
end Mf
namespace Mf
open PySem PySem.Spec PyProof.Rows L2
local macro_rules | `(tactic| walk_at "mf1") => `(tactic| first
  | ((with_reducible apply g_var); exact rfl)
  | with_reducible first
    | refine g_c ?_ | refine g_op ?_ | refine g_un ?_ | refine g_cb ?_ | refine g_cl ?_ | refine g_clX ?_ | refine g_mkR ?_ | refine g_clk ?_ | refine g_nil ?_ | refine g_cons ?_
    | refine g_tB ?_ | refine g_test ?_ | refine g_bl ?_ | refine g_and ?_ | refine g_or ?_ | refine g_not ?_ | refine g_andV ?_ | refine g_orV ?_ | refine g_notV ?_
    | refine g_if ?_ | refine g_ifS ?_ | refine g_seq ?_ | refine g_next ?_ | refine g_ret ?_ | refine g_drop ?_ | refine g_asg ?_ | refine g_name ?_ | refine g_sub ?_
    | refine g_int ?_ | refine g_intB ?_ | refine g_abs ?_ | refine g_I0 ?_ | refine g_addI ?_ | refine g_U ?_ | refine g_isNn ?_ | refine g_isNi ?_ | refine g_notN ?_ | refine g_notT1 ?_ | refine g_notT2 ?_ | refine g_notT3 ?_ | refine g_notT4 ?_ | refine g_notTb ?_ | refine g_notTi ?_ | refine g_eqI ?_ | refine g_neI ?_ | refine g_neSs ?_ | refine g_neS ?_ | refine g_eqS ?_
    | refine g_iteT ?_ | refine g_iteF ?_ | refine g_iteNT ?_ | refine g_iteNF ?_ | refine g_lst ?_ | refine g_tup ?_ | refine g_seqP ?_ | refine g_sl ?_ | refine g_noPart ?_ | refine g_part ?_ | refine g_yes ?_ | refine g_thenT ?_ | refine g_consG ?_ | refine g_nilG ?_ | refine g_ii ?_ | refine g_par ?_ | refine g_par3 ?_ | refine g_vv ?_ | refine g_vvv ?_ | refine g_reprB ?_ | refine g_lcL ?_ | refine g_lcR ?_
  | ((with_reducible refine g_mod ?_ ?_); (first | omega | decide))
  | ((with_reducible refine g_div ?_ ?_ ?_); (first | omega | decide); (first | assumption | decide))
  | ((with_reducible refine g_mulL ?_ ?_ ?_); (first | omega | decide); (first | omega | decide))
  | ((with_reducible refine g_mulR ?_ ?_ ?_); (first | omega | decide); (first | omega | decide))
  | ((with_reducible refine g_pow ?_ ?_ ?_ ?_); decide; decide; (first | omega | decide))
  | dsimp only)
local macro_rules | `(tactic| walk_at "mf1s") => `(tactic| first
  | ((with_reducible apply g_var); exact rfl)
  | with_reducible first
    | refine g_c ?_ | refine g_op ?_ | refine g_un ?_ | refine g_cb ?_ | refine g_cl ?_ | refine g_clX ?_ | refine g_mkR ?_ | refine g_clk ?_ | refine g_nil ?_ | refine g_cons ?_
    | refine g_tB ?_ | refine g_test ?_ | refine g_bl ?_ | refine g_and ?_ | refine g_or ?_ | refine g_not ?_ | refine g_andV ?_ | refine g_orV ?_ | refine g_notV ?_
    | refine g_if ?_ | refine g_ifS ?_ | refine g_next ?_ | refine g_ret ?_ | refine g_drop ?_ | refine g_asg ?_ | refine g_name ?_ | refine g_sub ?_
    | refine g_int ?_ | refine g_intB ?_ | refine g_abs ?_ | refine g_I0 ?_ | refine g_addI ?_ | refine g_U ?_ | refine g_isNn ?_ | refine g_isNi ?_ | refine g_notN ?_ | refine g_notT1 ?_ | refine g_notT2 ?_ | refine g_notT3 ?_ | refine g_notT4 ?_ | refine g_notTb ?_ | refine g_notTi ?_ | refine g_eqI ?_ | refine g_neI ?_ | refine g_neSs ?_ | refine g_neS ?_ | refine g_eqS ?_
    | refine g_iteT ?_ | refine g_iteF ?_ | refine g_iteNT ?_ | refine g_iteNF ?_ | refine g_lst ?_ | refine g_tup ?_ | refine g_seqP ?_ | refine g_sl ?_ | refine g_noPart ?_ | refine g_part ?_ | refine g_yes ?_ | refine g_thenT ?_ | refine g_consG ?_ | refine g_nilG ?_ | refine g_ii ?_ | refine g_par ?_ | refine g_par3 ?_ | refine g_vv ?_ | refine g_vvv ?_ | refine g_reprB ?_ | refine g_lcL ?_ | refine g_lcR ?_
  | ((with_reducible refine g_mod ?_ ?_); (first | omega | decide))
  | ((with_reducible refine g_div ?_ ?_ ?_); (first | omega | decide); (first | assumption | decide))
  | ((with_reducible refine g_mulL ?_ ?_ ?_); (first | omega | decide); (first | omega | decide))
  | ((with_reducible refine g_mulR ?_ ?_ ?_); (first | omega | decide); (first | omega | decide))
  | ((with_reducible refine g_pow ?_ ?_ ?_ ?_); decide; decide; (first | omega | decide))
  | dsimp only)
local macro_rules | `(tactic| walk_at "mfs") => `(tactic| repeat walk_at "mf1s")
local macro_rules | `(tactic| walk_at "mf") => `(tactic| repeat walk_at "mf1")
local macro_rules | `(tactic| walk_at "ed") => `(tactic| repeat (first
  | with_reducible first
    | exact eds_nil | apply eds_cons | exact ed_int | exact ed_bl | exact ed_non | apply ed_neg
  | ((with_reducible apply ed_str); decide)
  | ((with_reducible apply ed_var); (exact rfl); (first | assumption | exact Dq.int _))
  | ((with_reducible apply ed_dict0); assumption)
  | ((with_reducible apply ed_dict2); assumption)
  | ((with_reducible apply ed_tup); assumption)
  | ((with_reducible apply ed_lst); assumption)
  | (with_reducible apply ed_pow)
  | (with_reducible apply ed_mul)
  | assumption
  | (exact Dq.int _)
  | (exact ⟨by decide, by decide, by decide⟩)
  | (show List.length _ ≤ 1000; simp only [List.length_cons, List.length_nil]; decide)))
theorem ok_want_bounds (c : Cn) (T : Tx c) : Cl c 4 "want_bounds" s_want_bounds ["low", "high"] (sp_wb c.K) := by
  obtain ⟨P, w, K, mg, base⟩ := c
  have C_is_fraction := ok_is_fraction _ T
  refine De.cl (N := ["low", "high"]) T.d_want_bounds sc_want_bounds (fun vs H Q E h => ?_) (fun f0 cdv A outer s H vs Q E hA hr h => ?_)
  · obtain ⟨q, v1, v2, rfl, _⟩ := h; rfl
  · have S := sc_want_bounds
    obtain ⟨q, v1, v2, rfl, ⟨d1, h1, f1⟩, ⟨d2, h2, f2⟩, k⟩ := h
    refine ⟨_, (pss_cons (ps_if (pt_not (pt_val (pe_f C_is_fraction hA hr (by decide) pl_is_fraction (by rfl) (pa_cons (pv 0) pa_nil)))) (pss_one ps_never) pss_nil)
      (pss_one (ps_if (pt_not (pt_val (pe_f C_is_fraction hA hr (by decide) pl_is_fraction (by rfl) (pa_cons (pv 1) pa_nil)))) (pss_one ps_never) pss_nil))), ?_⟩
    walk_at "mf"
    refine ⟨q, v1, d1, rfl, h1, ?_⟩
    rw [f1]
    walk_at "mf"
    refine ⟨q, v2, d2, rfl, h2, ?_⟩
    rw [f2]
    walk_at "mf"
    exact k
theorem okX_want_bounds (c : Cn) (T : Tx c) {CP CN CM CT F : Addr} (Er : Errs c CP CN CM CT F) : ClX c 4 "want_bounds" s_want_bounds ["low", "high"] (sp_wbB CN c.K) := by
  have E_BadPoly := ec_BadPoly c Er.poly
  have E_BadNumber := ec_BadNumber c Er.num
  have E_Misfit := ec_Misfit c Er.mis
  have E_TooMany := ec_TooMany c Er.tm
  obtain ⟨P, w, K, mg, base⟩ := c
  have C_is_fraction := ok_is_fraction _ T
  refine De.clX (N := ["low", "high"]) T.d_want_bounds sc_want_bounds (fun vs H Q E h => ?_) (fun f0 cdv A outer s H vs Q E hA hr h => ?_)
  · obtain ⟨q, v1, v2, rfl, _⟩ := h; rfl
  · have S := sc_want_bounds
    obtain ⟨q, v1, v2, rfl, h⟩ := h
    refine ⟨_, (pss_cons (ps_if (pt_not (pt_val (pe_f C_is_fraction hA hr (by decide) pl_is_fraction (by rfl) (pa_cons (pv 0) pa_nil)))) (pss_one (ps_raise rfl (takes_of rfl rfl rfl rfl) (pmk_mkX E_BadNumber hA hr (by decide) (by rfl) (pa_cons pe_str pa_nil)))) pss_nil)
      (pss_one (ps_if (pt_not (pt_val (pe_f C_is_fraction hA hr (by decide) pl_is_fraction (by rfl) (pa_cons (pv 1) pa_nil)))) (pss_one (ps_raise rfl (takes_of rfl rfl rfl rfl) (pmk_mkX E_BadNumber hA hr (by decide) (by rfl) (pa_cons pe_str pa_nil)))) pss_nil))), ?_⟩
    rcases h with ⟨⟨d1, h1, f1⟩, k⟩ | ⟨⟨d1, h1, f1⟩, ⟨d2, h2, f2⟩, k⟩
    · walk_at "mf"
      refine ⟨q, v1, d1, rfl, h1, ?_⟩
      rw [f1]
      walk_at "mf"
      exact ⟨rfl, fun dd H' n' s' e => k dd H' n' s' e⟩
    · walk_at "mf"
      refine ⟨q, v1, d1, rfl, h1, ?_⟩
      rw [f1]
      walk_at "mf"
      refine ⟨q, v2, d2, rfl, h2, ?_⟩
      rw [f2]
      walk_at "mf"
      exact ⟨rfl, fun dd H' n' s' e => k dd H' n' s' e⟩
theorem okX_want_stretch (c : Cn) (T : Tx c) {CP CN CM CT F : Addr} (Er : Errs c CP CN CM CT F) : ClX c 6 "want_stretch" s_want_stretch ["low", "high"] (sp_wsB CM c.K) := by
  have E_BadPoly := ec_BadPoly c Er.poly
  have E_BadNumber := ec_BadNumber c Er.num
  have E_Misfit := ec_Misfit c Er.mis
  have E_TooMany := ec_TooMany c Er.tm
  obtain ⟨P, w, K, mg, base⟩ := c
  have C_sign_of := ok_sign_of _ T
  have C_taken := ok_taken _ T
  refine De.clX (N := ["low", "high"]) T.d_want_stretch sc_want_stretch (fun vs H Q E h => ?_) (fun f0 cdv A outer s H vs Q E hA hr h => ?_)
  · obtain ⟨q, v1, v2, r1, r2, rfl, _⟩ := h; rfl
  · have S := sc_want_stretch
    obtain ⟨q, v1, v2, r1, r2, rfl, hqt, h1, h2, hn, k⟩ := h
    refine ⟨_, (pss_one (ps_if (pt_cmpR op_le (pe_f C_sign_of hA hr (by decide) pl_sign_of (by rfl) (pa_cons (pe_f C_taken hA hr (by decide) pl_taken (by rfl) (pa_cons (pv 1) (pa_cons (pv 0) pa_nil))) pa_nil)) pe_int (nomark _)) (pss_one (ps_raise rfl (takes_of rfl rfl rfl rfl) (pmk_mkX E_Misfit hA hr (by decide) (by rfl) (pa_cons pe_str pa_nil)))) pss_nil)), ?_⟩
    walk_at "mf"
    refine ⟨q, v2, v1, r2, r1, 100, 100, rfl, h2, h1, by decide, fun p H1 s1 n1 e1 => ?_⟩
    walk_at "mf"
    refine ⟨q, .ref p, r2 - r1, 201, rfl, Fr.tup (tupU e1) (ne_trk hqt n1) (h2.rb.sub h1.rb), by decide, fun H2 s2 => ?_⟩
    walk_at "mf"
    rw [decide_eq_true (sgn_le hn)]
    walk_at "mf"
    exact ⟨rfl, fun dd H' n' s' e => ((k.go s1).go s2) dd H' n' s' e⟩
end Mf
namespace Mf
open PySem PySem.Spec PyProof.Rows L2
local macro_rules | `(tactic| walk_at "mf1") => `(tactic| first
  | ((with_reducible apply g_var); exact rfl)
  | with_reducible first
    | refine g_c ?_ | refine g_op ?_ | refine g_un ?_ | refine g_cb ?_ | refine g_cl ?_ | refine g_clX ?_ | refine g_mkR ?_ | refine g_clk ?_ | refine g_nil ?_ | refine g_cons ?_
    | refine g_tB ?_ | refine g_test ?_ | refine g_bl ?_ | refine g_and ?_ | refine g_or ?_ | refine g_not ?_ | refine g_andV ?_ | refine g_orV ?_ | refine g_notV ?_
    | refine g_if ?_ | refine g_ifS ?_ | refine g_seq ?_ | refine g_next ?_ | refine g_ret ?_ | refine g_drop ?_ | refine g_asg ?_ | refine g_name ?_ | refine g_sub ?_
    | refine g_int ?_ | refine g_intB ?_ | refine g_abs ?_ | refine g_I0 ?_ | refine g_addI ?_ | refine g_U ?_ | refine g_isNn ?_ | refine g_isNi ?_ | refine g_notN ?_ | refine g_notT1 ?_ | refine g_notT2 ?_ | refine g_notT3 ?_ | refine g_notT4 ?_ | refine g_notTb ?_ | refine g_notTi ?_ | refine g_eqI ?_ | refine g_neI ?_ | refine g_neSs ?_ | refine g_neS ?_ | refine g_eqS ?_
    | refine g_iteT ?_ | refine g_iteF ?_ | refine g_iteNT ?_ | refine g_iteNF ?_ | refine g_lst ?_ | refine g_tup ?_ | refine g_seqP ?_ | refine g_sl ?_ | refine g_noPart ?_ | refine g_part ?_ | refine g_yes ?_ | refine g_thenT ?_ | refine g_consG ?_ | refine g_nilG ?_ | refine g_ii ?_ | refine g_par ?_ | refine g_par3 ?_ | refine g_vv ?_ | refine g_vvv ?_ | refine g_reprB ?_ | refine g_lcL ?_ | refine g_lcR ?_
  | ((with_reducible refine g_mod ?_ ?_); (first | omega | decide))
  | ((with_reducible refine g_div ?_ ?_ ?_); (first | omega | decide); (first | assumption | decide))
  | ((with_reducible refine g_mulL ?_ ?_ ?_); (first | omega | decide); (first | omega | decide))
  | ((with_reducible refine g_mulR ?_ ?_ ?_); (first | omega | decide); (first | omega | decide))
  | ((with_reducible refine g_pow ?_ ?_ ?_ ?_); decide; decide; (first | omega | decide))
  | dsimp only)
local macro_rules | `(tactic| walk_at "mf1s") => `(tactic| first
  | ((with_reducible apply g_var); exact rfl)
  | with_reducible first
    | refine g_c ?_ | refine g_op ?_ | refine g_un ?_ | refine g_cb ?_ | refine g_cl ?_ | refine g_clX ?_ | refine g_mkR ?_ | refine g_clk ?_ | refine g_nil ?_ | refine g_cons ?_
    | refine g_tB ?_ | refine g_test ?_ | refine g_bl ?_ | refine g_and ?_ | refine g_or ?_ | refine g_not ?_ | refine g_andV ?_ | refine g_orV ?_ | refine g_notV ?_
    | refine g_if ?_ | refine g_ifS ?_ | refine g_next ?_ | refine g_ret ?_ | refine g_drop ?_ | refine g_asg ?_ | refine g_name ?_ | refine g_sub ?_
    | refine g_int ?_ | refine g_intB ?_ | refine g_abs ?_ | refine g_I0 ?_ | refine g_addI ?_ | refine g_U ?_ | refine g_isNn ?_ | refine g_isNi ?_ | refine g_notN ?_ | refine g_notT1 ?_ | refine g_notT2 ?_ | refine g_notT3 ?_ | refine g_notT4 ?_ | refine g_notTb ?_ | refine g_notTi ?_ | refine g_eqI ?_ | refine g_neI ?_ | refine g_neSs ?_ | refine g_neS ?_ | refine g_eqS ?_
    | refine g_iteT ?_ | refine g_iteF ?_ | refine g_iteNT ?_ | refine g_iteNF ?_ | refine g_lst ?_ | refine g_tup ?_ | refine g_seqP ?_ | refine g_sl ?_ | refine g_noPart ?_ | refine g_part ?_ | refine g_yes ?_ | refine g_thenT ?_ | refine g_consG ?_ | refine g_nilG ?_ | refine g_ii ?_ | refine g_par ?_ | refine g_par3 ?_ | refine g_vv ?_ | refine g_vvv ?_ | refine g_reprB ?_ | refine g_lcL ?_ | refine g_lcR ?_
  | ((with_reducible refine g_mod ?_ ?_); (first | omega | decide))
  | ((with_reducible refine g_div ?_ ?_ ?_); (first | omega | decide); (first | assumption | decide))
  | ((with_reducible refine g_mulL ?_ ?_ ?_); (first | omega | decide); (first | omega | decide))
  | ((with_reducible refine g_mulR ?_ ?_ ?_); (first | omega | decide); (first | omega | decide))
  | ((with_reducible refine g_pow ?_ ?_ ?_ ?_); decide; decide; (first | omega | decide))
  | dsimp only)
local macro_rules | `(tactic| walk_at "mfs") => `(tactic| repeat walk_at "mf1s")
local macro_rules | `(tactic| walk_at "mf") => `(tactic| repeat walk_at "mf1")
local macro_rules | `(tactic| walk_at "ed") => `(tactic| repeat (first
  | with_reducible first
    | exact eds_nil | apply eds_cons | exact ed_int | exact ed_bl | exact ed_non | apply ed_neg
  | ((with_reducible apply ed_str); decide)
  | ((with_reducible apply ed_var); (exact rfl); (first | assumption | exact Dq.int _))
  | ((with_reducible apply ed_dict0); assumption)
  | ((with_reducible apply ed_dict2); assumption)
  | ((with_reducible apply ed_tup); assumption)
  | ((with_reducible apply ed_lst); assumption)
  | (with_reducible apply ed_pow)
  | (with_reducible apply ed_mul)
  | assumption
  | (exact Dq.int _)
  | (exact ⟨by decide, by decide, by decide⟩)
  | (show List.length _ ≤ 1000; simp only [List.length_cons, List.length_nil]; decide)))
def ZB (CP CN : Addr) (q : Addr) (K : PySem.W.Frag) (H : Hp) (v1 v2 v3 : V) (E : XK) (rest : List Rat → Prop) : Prop := (BP q K H v1 ∧ Er1 CP "poly" H E) ∨ ∃ rs, GP q K H v1 rs ∧ ((BF q K H v2 ∧ Er1 CN "low" H E) ∨ (GF q K H v2 ∧ BF q K H v3 ∧ Er1 CN "high" H E) ∨ (GF q K H v2 ∧ GF q K H v3 ∧ rest rs))
/-- low and high, and high isn't above low -/
def NS (q : Addr) (K : PySem.W.Frag) (H : Hp) (v2 v3 : V) : Prop := ∃ r2 r3, Fr q K H v2 r2 100 ∧ Fr q K H v3 r3 100 ∧ (r3 - r2).num ≤ 0
theorem NS.go {q : Addr} {K : PySem.W.Frag} {H H1 : Hp} {v2 v3 : V} (s : Same H H1) (h : NS q K H v2 v3) : NS q K H1 v2 v3 := by
  obtain ⟨r2, r3, h1, h2, h3⟩ := h
  exact ⟨r2, r3, h1.go (Same.x s), h2.go (Same.x s), h3⟩
def sp_zinB (CP CN CM : Addr) (K : PySem.W.Frag) : Sp := fun vs H Q E => ∃ q v1 v2 v3, vs = [v1, v2, v3] ∧ H q ≠ none ∧ ZB CP CN q K H v1 v2 v3 E fun rs => (rs = [] ∧ Er1 CM "poly" H E) ∨ (rs ≠ [] ∧ NS q K H v2 v3 ∧ Er1 CM "high" H E)
def sp_aboB (CP CN CM : Addr) (K : PySem.W.Frag) : Sp := fun vs H Q E => ∃ q v1 v2 v3, vs = [v1, v2, v3] ∧ H q ≠ none ∧ ZB CP CN q K H v1 v2 v3 E fun _ => NS q K H v2 v3 ∧ Er1 CM "high" H E
/-- a width that is none, one that is -/
def BW (q : Addr) (K : PySem.W.Frag) (H : Hp) (v : V) : Prop := BF q K H v ∨ ∃ r, Fr q K H v r 100 ∧ r.num ≤ 0
def GW (q : Addr) (K : PySem.W.Frag) (H : Hp) (v : V) : Prop := ∃ r, Fr q K H v r 100 ∧ 0 < r.num
def sp_fzB (CP CN CM : Addr) (K : PySem.W.Frag) : Sp := fun vs H Q E => ∃ q v1 v2 v3 v4, vs = [v1, v2, v3, v4] ∧ H q ≠ none ∧ ZB CP CN q K H v1 v2 v3 E fun rs => (BW q K H v4 ∧ Er1 CN "width" H E) ∨ (GW q K H v4 ∧ ((rs = [] ∧ Er1 CM "poly" H E) ∨ (rs ≠ [] ∧ NS q K H v2 v3 ∧ Er1 CM "high" H E)))
theorem sgn_gt {n : Int} (h : 0 < n) : ¬ sgn n ≤ 0 := by
  unfold sgn
  rw [if_neg (by omega), if_pos h]
  decide
theorem sq_ne {us : List Int} {rs : List Rat} (h : us.length = rs.length) (n : rs ≠ []) : (!(us.map V.int).isEmpty) = true := by
  cases us with
  | nil => cases rs with
    | nil => exact absurd rfl n
    | cons _ _ => cases h
  | cons _ _ => rfl
theorem sq_e {us : List Int} (h : us.length = ([] : List Rat).length) : (!(us.map V.int).isEmpty) = false := by
  cases us with
  | nil => rfl
  | cons _ _ => cases h
theorem okX_is_above (c : Cn) (T : Tx c) {CP CN CM CT F : Addr} (Er : Errs c CP CN CM CT F) : ClX c 7 "is_above" s_is_above ["poly", "low", "high"] (sp_aboB CP CN CM c.K) := by
  have E_BadPoly := ec_BadPoly c Er.poly
  have E_BadNumber := ec_BadNumber c Er.num
  have E_Misfit := ec_Misfit c Er.mis
  have E_TooMany := ec_TooMany c Er.tm
  obtain ⟨P, w, K, mg, base⟩ := c
  have C_fraction_of := ok_fraction_of _ T
  have C_is_above_on := ok_is_above_on _ T
  have C_over_one_down := ok_over_one_down _ T
  have CX_read_poly := ClX.or (ok_read_poly _ T) (okX_read_poly _ T Er) (Nat.le_refl _) (Nat.le_refl _)
  have CX_want_bounds := ClX.or (ok_want_bounds _ T) (okX_want_bounds _ T Er) (Nat.le_refl _) (Nat.le_refl _)
  have CX_want_stretch := okX_want_stretch _ T Er
  refine De.clX (N := ["poly", "low", "high", "numbers", "_"]) T.d_is_above sc_is_above (fun vs H Q E h => ?_) (fun f0 cdv A outer s H vs Q E hA hr h => ?_)
  · obtain ⟨q, v1, v2, v3, rfl, _⟩ := h; rfl
  · have S := sc_is_above
    obtain ⟨q, v1, v2, v3, rfl, hqt, h⟩ := h
    refine ⟨_, (pss_cons (ps_asg (pe_f C_over_one_down hA hr (by decide) pl_over_one_down (by rfl) (pa_cons (pe_fX CX_read_poly hA hr (by decide) pl_read_poly (by rfl) (fun σ => passAt (takes_of rfl rfl rfl rfl) σ) (pa_cons (pv 0) (pa_cons pe_str pa_nil))) pa_nil)) (pg_tup rfl (pgs_cons (pg_name (i := 3) S.nd rfl (by first | exact .inl rfl | exact .inr rfl)) (pgs_cons (pg_name (i := 4) S.nd rfl (by first | exact .inl rfl | exact .inr rfl)) pgs_nil))))
      (pss_cons (ps_expr (pe_fX CX_want_bounds hA hr (by decide) pl_want_bounds (by rfl) (fun σ => passAt (takes_of rfl rfl rfl rfl) σ) (pa_cons (pv 1) (pa_cons (pv 2) pa_nil))))
      (pss_cons (ps_expr (pe_fX CX_want_stretch hA hr (by decide) pl_want_stretch (by rfl) (fun σ => passAt (takes_of rfl rfl rfl rfl) σ) (pa_cons (pv 1) (pa_cons (pv 2) pa_nil))))
      (pss_one (ps_ret (pe_f C_is_above_on hA hr (by decide) pl_is_above_on (by rfl) (pa_cons (pv 3) (pa_cons (pe_f C_fraction_of hA hr (by decide) pl_fraction_of (by rfl) (pa_cons (pv 1) pa_nil)) (pa_cons (pe_f C_fraction_of hA hr (by decide) pl_fraction_of (by rfl) (pa_cons (pv 2) pa_nil)) pa_nil))))))))), ?_⟩
    rcases h with ⟨hb, k⟩ | ⟨rs, hg, h⟩
    · walk_at "mf"
      exact rp_bad hb k
    · walk_at "mf"
      refine .inl (rp_ok hg fun p1 H1 ws s1 n1 e1 t1 => ?_)
      walk_at "mf"
      refine oo_ok e1 t1 hg.rb hg.len fun p2 H2 L us s2 n2 e2 eL lu => ?_
      refine g_tupG (tupU e2) rfl ?_
      walk_at "mf"
      have s12 := s1.trans s2
      have hqt := Same.trk s12 hqt
      rcases h with ⟨hb, k⟩ | ⟨hl, hb, k⟩ | ⟨hl, hh, h⟩
      · exact .inr ⟨q, v2, v3, rfl, .inl ⟨hb.go s12, k.go s12⟩⟩
      · exact .inr ⟨q, v2, v3, rfl, .inr ⟨hl.go s12, hb.go s12, k.go s12⟩⟩
      · refine .inl ⟨q, v2, v3, rfl, hl.go s12, hh.go s12, ?_⟩
        walk_at "mf"
        obtain ⟨hns, k⟩ := h
        obtain ⟨r2, r3, f2, f3, hn⟩ := hns
        exact ⟨q, v2, v3, r2, r3, rfl, hqt, f2.go (Same.x s12), f3.go (Same.x s12), hn, k.go s12⟩
theorem okX_zeros_in (c : Cn) (T : Tx c) {CP CN CM CT F : Addr} (Er : Errs c CP CN CM CT F) : ClX c 7 "zeros_in" s_zeros_in ["poly", "low", "high"] (sp_zinB CP CN CM c.K) := by
  have E_BadPoly := ec_BadPoly c Er.poly
  have E_BadNumber := ec_BadNumber c Er.num
  have E_Misfit := ec_Misfit c Er.mis
  have E_TooMany := ec_TooMany c Er.tm
  obtain ⟨P, w, K, mg, base⟩ := c
  have C_fraction_of := ok_fraction_of _ T
  have C_over_one_down := ok_over_one_down _ T
  have C_zeros_within := ok_zeros_within _ T
  have CX_read_poly := ClX.or (ok_read_poly _ T) (okX_read_poly _ T Er) (Nat.le_refl _) (Nat.le_refl _)
  have CX_want_bounds := ClX.or (ok_want_bounds _ T) (okX_want_bounds _ T Er) (Nat.le_refl _) (Nat.le_refl _)
  have CX_want_stretch := okX_want_stretch _ T Er
  refine De.clX (N := ["poly", "low", "high", "numbers", "_"]) T.d_zeros_in sc_zeros_in (fun vs H Q E h => ?_) (fun f0 cdv A outer s H vs Q E hA hr h => ?_)
  · obtain ⟨q, v1, v2, v3, rfl, _⟩ := h; rfl
  · have S := sc_zeros_in
    obtain ⟨q, v1, v2, v3, rfl, hqt, h⟩ := h
    refine ⟨_, (pss_cons (ps_asg (pe_f C_over_one_down hA hr (by decide) pl_over_one_down (by rfl) (pa_cons (pe_fX CX_read_poly hA hr (by decide) pl_read_poly (by rfl) (fun σ => passAt (takes_of rfl rfl rfl rfl) σ) (pa_cons (pv 0) (pa_cons pe_str pa_nil))) pa_nil)) (pg_tup rfl (pgs_cons (pg_name (i := 3) S.nd rfl (by first | exact .inl rfl | exact .inr rfl)) (pgs_cons (pg_name (i := 4) S.nd rfl (by first | exact .inl rfl | exact .inr rfl)) pgs_nil))))
      (pss_cons (ps_expr (pe_fX CX_want_bounds hA hr (by decide) pl_want_bounds (by rfl) (fun σ => passAt (takes_of rfl rfl rfl rfl) σ) (pa_cons (pv 1) (pa_cons (pv 2) pa_nil))))
      (pss_cons (ps_if (pt_not (pt_truth (pv 3) (fun _ => rfl))) (pss_one (ps_raise rfl (takes_of rfl rfl rfl rfl) (pmk_mkX E_Misfit hA hr (by decide) (by rfl) (pa_cons pe_str pa_nil)))) pss_nil)
      (pss_cons (ps_expr (pe_fX CX_want_stretch hA hr (by decide) pl_want_stretch (by rfl) (fun σ => passAt (takes_of rfl rfl rfl rfl) σ) (pa_cons (pv 1) (pa_cons (pv 2) pa_nil))))
      (pss_one (ps_ret (pe_f C_zeros_within hA hr (by decide) pl_zeros_within (by rfl) (pa_cons (pv 3) (pa_cons (pe_f C_fraction_of hA hr (by decide) pl_fraction_of (by rfl) (pa_cons (pv 1) pa_nil)) (pa_cons (pe_f C_fraction_of hA hr (by decide) pl_fraction_of (by rfl) (pa_cons (pv 2) pa_nil)) pa_nil)))))))))), ?_⟩
    rcases h with ⟨hb, k⟩ | ⟨rs, hg, h⟩
    · walk_at "mf"
      exact rp_bad hb k
    · walk_at "mf"
      refine .inl (rp_ok hg fun p1 H1 ws s1 n1 e1 t1 => ?_)
      walk_at "mf"
      refine oo_ok e1 t1 hg.rb hg.len fun p2 H2 L us s2 n2 e2 eL lu => ?_
      refine g_tupG (tupU e2) rfl ?_
      walk_at "mf"
      have s12 := s1.trans s2
      have hqt := Same.trk s12 hqt
      rcases h with ⟨hb, k⟩ | ⟨hl, hb, k⟩ | ⟨hl, hh, h⟩
      · exact .inr ⟨q, v2, v3, rfl, .inl ⟨hb.go s12, k.go s12⟩⟩
      · exact .inr ⟨q, v2, v3, rfl, .inr ⟨hl.go s12, hb.go s12, k.go s12⟩⟩
      · refine .inl ⟨q, v2, v3, rfl, hl.go s12, hh.go s12, ?_⟩
        walk_at "mf"
        rcases h with ⟨rfl, k⟩ | ⟨hne, hns, k⟩
        · refine ⟨false, .inl ⟨_, seqU eL, (sq_e lu).symm⟩, ?_⟩
          walk_at "mf"
          exact ⟨rfl, fun dd H' n' s' e => ((k.go s12)) dd H' n' s' e⟩
        · refine ⟨true, .inl ⟨_, seqU eL, (sq_ne lu hne).symm⟩, ?_⟩
          walk_at "mf"
          obtain ⟨r2, r3, f2, f3, hn⟩ := hns
          exact ⟨q, v2, v3, r2, r3, rfl, hqt, f2.go (Same.x s12), f3.go (Same.x s12), hn, k.go s12⟩
theorem okX_first_zero (c : Cn) (T : Tx c) {CP CN CM CT F : Addr} (Er : Errs c CP CN CM CT F) : ClX c 7 "first_zero" s_first_zero ["poly", "low", "high", "width"] (sp_fzB CP CN CM c.K) := by
  have E_BadPoly := ec_BadPoly c Er.poly
  have E_BadNumber := ec_BadNumber c Er.num
  have E_Misfit := ec_Misfit c Er.mis
  have E_TooMany := ec_TooMany c Er.tm
  obtain ⟨P, w, K, mg, base⟩ := c
  have C_first_span := ok_first_span _ T
  have C_fraction_of := ok_fraction_of _ T
  have C_is_fraction := ok_is_fraction _ T
  have C_over_one_down := ok_over_one_down _ T
  have C_sign_of := ok_sign_of _ T
  have CX_read_poly := ClX.or (ok_read_poly _ T) (okX_read_poly _ T Er) (Nat.le_refl _) (Nat.le_refl _)
  have CX_want_bounds := ClX.or (ok_want_bounds _ T) (okX_want_bounds _ T Er) (Nat.le_refl _) (Nat.le_refl _)
  have CX_want_stretch := okX_want_stretch _ T Er
  refine De.clX (N := ["poly", "low", "high", "width", "numbers", "_"]) T.d_first_zero sc_first_zero (fun vs H Q E h => ?_) (fun f0 cdv A outer s H vs Q E hA hr h => ?_)
  · obtain ⟨q, v1, v2, v3, v4, rfl, _⟩ := h; rfl
  · have S := sc_first_zero
    obtain ⟨q, v1, v2, v3, v4, rfl, hqt, h⟩ := h
    refine ⟨_, (pss_cons (ps_asg (pe_f C_over_one_down hA hr (by decide) pl_over_one_down (by rfl) (pa_cons (pe_fX CX_read_poly hA hr (by decide) pl_read_poly (by rfl) (fun σ => passAt (takes_of rfl rfl rfl rfl) σ) (pa_cons (pv 0) (pa_cons pe_str pa_nil))) pa_nil)) (pg_tup rfl (pgs_cons (pg_name (i := 4) S.nd rfl (by first | exact .inl rfl | exact .inr rfl)) (pgs_cons (pg_name (i := 5) S.nd rfl (by first | exact .inl rfl | exact .inr rfl)) pgs_nil))))
      (pss_cons (ps_expr (pe_fX CX_want_bounds hA hr (by decide) pl_want_bounds (by rfl) (fun σ => passAt (takes_of rfl rfl rfl rfl) σ) (pa_cons (pv 1) (pa_cons (pv 2) pa_nil))))
      (pss_cons (ps_if (PW.pt (pw_or (pt_not (pt_val (pe_f C_is_fraction hA hr (by decide) pl_is_fraction (by rfl) (pa_cons (pv 3) pa_nil)))) (pw_or1 (pt_cmpR op_le (pe_f C_sign_of hA hr (by decide) pl_sign_of (by rfl) (pa_cons (pv 3) pa_nil)) pe_int (nomark _))))) (pss_one (ps_raise rfl (takes_of rfl rfl rfl rfl) (pmk_mkX E_BadNumber hA hr (by decide) (by rfl) (pa_cons pe_str pa_nil)))) pss_nil)
      (pss_cons (ps_if (pt_not (pt_truth (pv 4) (fun _ => rfl))) (pss_one (ps_raise rfl (takes_of rfl rfl rfl rfl) (pmk_mkX E_Misfit hA hr (by decide) (by rfl) (pa_cons pe_str pa_nil)))) pss_nil)
      (pss_cons (ps_expr (pe_fX CX_want_stretch hA hr (by decide) pl_want_stretch (by rfl) (fun σ => passAt (takes_of rfl rfl rfl rfl) σ) (pa_cons (pv 1) (pa_cons (pv 2) pa_nil))))
      (pss_one (ps_ret (pe_f C_first_span hA hr (by decide) pl_first_span (by rfl) (pa_cons (pv 4) (pa_cons (pe_f C_fraction_of hA hr (by decide) pl_fraction_of (by rfl) (pa_cons (pv 1) pa_nil)) (pa_cons (pe_f C_fraction_of hA hr (by decide) pl_fraction_of (by rfl) (pa_cons (pv 2) pa_nil)) (pa_cons (pv 3) pa_nil)))))))))))), ?_⟩
    rcases h with ⟨hb, k⟩ | ⟨rs, hg, h⟩
    · walk_at "mf"
      exact rp_bad hb k
    · walk_at "mf"
      refine .inl (rp_ok hg fun p1 H1 ws s1 n1 e1 t1 => ?_)
      walk_at "mf"
      refine oo_ok e1 t1 hg.rb hg.len fun p2 H2 L us s2 n2 e2 eL lu => ?_
      refine g_tupG (tupU e2) rfl ?_
      walk_at "mf"
      have s12 := s1.trans s2
      have hqt := Same.trk s12 hqt
      rcases h with ⟨hb, k⟩ | ⟨hl, hb, k⟩ | ⟨hl, hh, h⟩
      · exact .inr ⟨q, v2, v3, rfl, .inl ⟨hb.go s12, k.go s12⟩⟩
      · exact .inr ⟨q, v2, v3, rfl, .inr ⟨hl.go s12, hb.go s12, k.go s12⟩⟩
      · refine .inl ⟨q, v2, v3, rfl, hl.go s12, hh.go s12, ?_⟩
        walk_at "mf"
        rcases h with ⟨hw, k⟩ | ⟨⟨r, hw, hr⟩, h⟩
        · rcases hw with ⟨d, hd, hf⟩ | ⟨r, hw, hr⟩
          · refine ⟨q, v4, d, rfl, hd.go (Same.x s12), ?_⟩
            rw [hf]
            walk_at "mf"
            exact ⟨rfl, fun dd H' n' s' e => (k.go s12) dd H' n' s' e⟩
          · obtain ⟨d, hd, hf, hrest⟩ := id hw
            refine ⟨q, v4, d, rfl, hd.go (Same.x s12), ?_⟩
            rw [hf]
            walk_at "mf"
            refine ⟨q, v4, r, 100, rfl, hw.go (Same.x s12), by decide, fun H3 s3 => ?_⟩
            walk_at "mf"
            rw [decide_eq_true (sgn_le hr)]
            walk_at "mf"
            exact ⟨rfl, fun dd H' n' s' e => ((k.go s12).go s3) dd H' n' s' e⟩
        · obtain ⟨d, hd, hf, hrest⟩ := id hw
          refine ⟨q, v4, d, rfl, hd.go (Same.x s12), ?_⟩
          rw [hf]
          walk_at "mf"
          refine ⟨q, v4, r, 100, rfl, hw.go (Same.x s12), by decide, fun H3 s3 => ?_⟩
          walk_at "mf"
          rw [decide_eq_false (sgn_gt hr)]
          walk_at "mf"
          have eL := s3 _ _ eL
          have hqt := Same.trk s3 hqt
          have s12 := s12.trans s3
          rcases h with ⟨rfl, k⟩ | ⟨hne, hns, k⟩
          · refine ⟨false, .inl ⟨_, seqU eL, (sq_e lu).symm⟩, ?_⟩
            walk_at "mf"
            exact ⟨rfl, fun dd H' n' s' e => ((k.go s12)) dd H' n' s' e⟩
          · refine ⟨true, .inl ⟨_, seqU eL, (sq_ne lu hne).symm⟩, ?_⟩
            walk_at "mf"
            obtain ⟨r2, r3, f2, f3, hn⟩ := hns
            exact ⟨q, v2, v3, r2, r3, rfl, hqt, f2.go (Same.x s12), f3.go (Same.x s12), hn, k.go s12⟩
end Mf
namespace Mf
open PySem PySem.Spec PyProof.Rows L2
local macro_rules | `(tactic| walk_at "mf1") => `(tactic| first
  | ((with_reducible apply g_var); exact rfl)
  | with_reducible first
    | refine g_c ?_ | refine g_op ?_ | refine g_un ?_ | refine g_cb ?_ | refine g_cl ?_ | refine g_clX ?_ | refine g_mkR ?_ | refine g_clk ?_ | refine g_nil ?_ | refine g_cons ?_
    | refine g_tB ?_ | refine g_test ?_ | refine g_bl ?_ | refine g_and ?_ | refine g_or ?_ | refine g_not ?_ | refine g_andV ?_ | refine g_orV ?_ | refine g_notV ?_
    | refine g_if ?_ | refine g_ifS ?_ | refine g_seq ?_ | refine g_next ?_ | refine g_ret ?_ | refine g_drop ?_ | refine g_asg ?_ | refine g_name ?_ | refine g_sub ?_
    | refine g_int ?_ | refine g_intB ?_ | refine g_abs ?_ | refine g_I0 ?_ | refine g_addI ?_ | refine g_U ?_ | refine g_isNn ?_ | refine g_isNi ?_ | refine g_notN ?_ | refine g_notT1 ?_ | refine g_notT2 ?_ | refine g_notT3 ?_ | refine g_notT4 ?_ | refine g_notTb ?_ | refine g_notTi ?_ | refine g_eqI ?_ | refine g_neI ?_ | refine g_neSs ?_ | refine g_neS ?_ | refine g_eqS ?_
    | refine g_iteT ?_ | refine g_iteF ?_ | refine g_iteNT ?_ | refine g_iteNF ?_ | refine g_lst ?_ | refine g_tup ?_ | refine g_seqP ?_ | refine g_sl ?_ | refine g_noPart ?_ | refine g_part ?_ | refine g_yes ?_ | refine g_thenT ?_ | refine g_consG ?_ | refine g_nilG ?_ | refine g_ii ?_ | refine g_par ?_ | refine g_par3 ?_ | refine g_vv ?_ | refine g_vvv ?_ | refine g_reprB ?_ | refine g_lcL ?_ | refine g_lcR ?_
  | ((with_reducible refine g_mod ?_ ?_); (first | omega | decide))
  | ((with_reducible refine g_div ?_ ?_ ?_); (first | omega | decide); (first | assumption | decide))
  | ((with_reducible refine g_mulL ?_ ?_ ?_); (first | omega | decide); (first | omega | decide))
  | ((with_reducible refine g_mulR ?_ ?_ ?_); (first | omega | decide); (first | omega | decide))
  | ((with_reducible refine g_pow ?_ ?_ ?_ ?_); decide; decide; (first | omega | decide))
  | dsimp only)
local macro_rules | `(tactic| walk_at "mf1s") => `(tactic| first
  | ((with_reducible apply g_var); exact rfl)
  | with_reducible first
    | refine g_c ?_ | refine g_op ?_ | refine g_un ?_ | refine g_cb ?_ | refine g_cl ?_ | refine g_clX ?_ | refine g_mkR ?_ | refine g_clk ?_ | refine g_nil ?_ | refine g_cons ?_
    | refine g_tB ?_ | refine g_test ?_ | refine g_bl ?_ | refine g_and ?_ | refine g_or ?_ | refine g_not ?_ | refine g_andV ?_ | refine g_orV ?_ | refine g_notV ?_
    | refine g_if ?_ | refine g_ifS ?_ | refine g_next ?_ | refine g_ret ?_ | refine g_drop ?_ | refine g_asg ?_ | refine g_name ?_ | refine g_sub ?_
    | refine g_int ?_ | refine g_intB ?_ | refine g_abs ?_ | refine g_I0 ?_ | refine g_addI ?_ | refine g_U ?_ | refine g_isNn ?_ | refine g_isNi ?_ | refine g_notN ?_ | refine g_notT1 ?_ | refine g_notT2 ?_ | refine g_notT3 ?_ | refine g_notT4 ?_ | refine g_notTb ?_ | refine g_notTi ?_ | refine g_eqI ?_ | refine g_neI ?_ | refine g_neSs ?_ | refine g_neS ?_ | refine g_eqS ?_
    | refine g_iteT ?_ | refine g_iteF ?_ | refine g_iteNT ?_ | refine g_iteNF ?_ | refine g_lst ?_ | refine g_tup ?_ | refine g_seqP ?_ | refine g_sl ?_ | refine g_noPart ?_ | refine g_part ?_ | refine g_yes ?_ | refine g_thenT ?_ | refine g_consG ?_ | refine g_nilG ?_ | refine g_ii ?_ | refine g_par ?_ | refine g_par3 ?_ | refine g_vv ?_ | refine g_vvv ?_ | refine g_reprB ?_ | refine g_lcL ?_ | refine g_lcR ?_
  | ((with_reducible refine g_mod ?_ ?_); (first | omega | decide))
  | ((with_reducible refine g_div ?_ ?_ ?_); (first | omega | decide); (first | assumption | decide))
  | ((with_reducible refine g_mulL ?_ ?_ ?_); (first | omega | decide); (first | omega | decide))
  | ((with_reducible refine g_mulR ?_ ?_ ?_); (first | omega | decide); (first | omega | decide))
  | ((with_reducible refine g_pow ?_ ?_ ?_ ?_); decide; decide; (first | omega | decide))
  | dsimp only)
local macro_rules | `(tactic| walk_at "mfs") => `(tactic| repeat walk_at "mf1s")
local macro_rules | `(tactic| walk_at "mf") => `(tactic| repeat walk_at "mf1")
local macro_rules | `(tactic| walk_at "ed") => `(tactic| repeat (first
  | with_reducible first
    | exact eds_nil | apply eds_cons | exact ed_int | exact ed_bl | exact ed_non | apply ed_neg
  | ((with_reducible apply ed_str); decide)
  | ((with_reducible apply ed_var); (exact rfl); (first | assumption | exact Dq.int _))
  | ((with_reducible apply ed_dict0); assumption)
  | ((with_reducible apply ed_dict2); assumption)
  | ((with_reducible apply ed_tup); assumption)
  | ((with_reducible apply ed_lst); assumption)
  | (with_reducible apply ed_pow)
  | (with_reducible apply ed_mul)
  | assumption
  | (exact Dq.int _)
  | (exact ⟨by decide, by decide, by decide⟩)
  | (show List.length _ ≤ 1000; simp only [List.length_cons, List.length_nil]; decide)))
def sp_ptsB (C M : Addr) (K : PySem.W.Frag) : Sp := fun vs H Q E => ∃ q v d, vs = [v] ∧ Dq q K H v d ∧ (itemsD d).length ≤ 900 ∧ ((isPtsD d = false ∧ Er1 C "points" H E) ∨
  ∃ n, isSeqD d = true ∧ (∀ e ∈ itemsD d, PtOk n e) ∧ n ≤ 7000 ∧ (itemsD d).length ≤ 40 ∧ ¬ ((itemsD d).map fun e => (xy e).1).Nodup ∧ Er1 M "points" H E)
theorem okX_read_points (c : Cn) (T : Tx c) {CP CN CM CT F : Addr} (Er : Errs c CP CN CM CT F) : ClX c 6 "read_points" s_read_points ["points"] (sp_ptsB CP CM c.K) := by
  have E_BadPoly := ec_BadPoly c Er.poly
  have E_BadNumber := ec_BadNumber c Er.num
  have E_Misfit := ec_Misfit c Er.mis
  have E_TooMany := ec_TooMany c Er.tm
  obtain ⟨P, w, K, mg, base⟩ := c
  have C_fraction_of := ok_fraction_of _ T
  have C_is_list := ok_is_list _ T
  have C_is_place := ok_is_place _ T
  refine De.clX (N := ["points", "pairs", "point", "at", "value", "_"]) T.d_read_points sc_read_points (fun vs H Q E h => ?_) (fun f0 cdv A outer s H vs Q E hA hr h => ?_)
  · obtain ⟨q, v, d, rfl, _⟩ := h; rfl
  · have S := sc_read_points
    obtain ⟨q, v, dd, rfl, hdd, hlen, h⟩ := h
    refine ⟨_, (pss_cons (ps_if (PW.pt (pw_or (pt_not (pt_val (pe_f C_is_list hA hr (by decide) pl_is_list (by rfl) (pa_cons (pv 0) pa_nil)))) (pw_or (pt_cmpR op_gt (pe_callB call_lenU (by rfl) T.n_len PySem.boot_len (pa_cons (pv 0) pa_nil)) (pe_globI (i := 40) (by rfl) T.c_MOST_POINTS) (nomark _)) (pw_or1 (pt_not (pt_val (pe_callB (cr_all rfl) (by rfl) T.n_all (by decide +kernel) (pa_cons (pe_lc (own := [("point", 2)]) (g := gName 2) (tt := tYes) rfl S.nd (pi_or (pi_list (pv 0)) (pi_tup (pv 0))) (blkOk_by (N := ["points", "pairs", "point", "at", "value", "_"]) (sc := defScope s_read_points) (by decide +kernel)) (fun _ _ _ _ _ => pg_name (i := 2) S.nd rfl (Or.inl rfl)) (fun _ _ _ _ _ => pts_nil) (fun _ _ _ _ _ => (pe_f C_is_place hA hr (by decide) pl_is_place (by rfl) (pa_cons (pv 2) pa_nil)))) pa_nil)))))))) (pss_one (ps_raise rfl (takes_of rfl rfl rfl rfl) (pmk_mkX E_BadPoly hA hr (by decide) (by rfl) (pa_cons pe_str pa_nil)))) pss_nil)
      (pss_cons (ps_setLc (i := 1) (own := [("at", 3), ("value", 4)]) (g := g2O K 3 4) (tt := tYes) rfl S.nd rfl rfl (sw_true rfl rfl rfl (by decide +kernel)) (pi_or (pi_list (pv 0)) (pi_tup (pv 0))) (blkOk_by (N := ["points", "pairs", "point", "at", "value", "_"]) (sc := defScope s_read_points) (by decide +kernel)) (fun _ _ _ _ _ => pg_or (pg_tup rfl (pgs_cons (pg_name (i := 3) S.nd rfl (Or.inl rfl)) (pgs_cons (pg_name (i := 4) S.nd rfl (Or.inl rfl)) pgs_nil))) (pg_unl rfl (pgs_cons (pg_name (i := 3) S.nd rfl (Or.inl rfl)) (pgs_cons (pg_name (i := 4) S.nd rfl (Or.inl rfl)) pgs_nil)))) (fun _ _ _ _ _ => pts_nil) (fun _ _ _ _ _ => (pe_tup (pa_cons (pe_f C_fraction_of hA hr (by decide) pl_fraction_of (by rfl) (pa_cons (pv 3) pa_nil)) (pa_cons (pe_f C_fraction_of hA hr (by decide) pl_fraction_of (by rfl) (pa_cons (pv 4) pa_nil)) pa_nil)))))
      (pss_cons (ps_if (pt_cmpR op_lt (pe_callB (show CallR _ (.builtin "len") (rLenST K P w) from call_lenST) (by rfl) T.n_len PySem.boot_len (pa_cons (pe_callTy (show CallR _ (.type "set") (rSetOfT K P w) from cr_setOfT rfl (by exact hr.units)) (by rfl) T.n_set (show bootBuiltins "set" = some (.type "set") by decide +kernel) (pa_cons (pe_lc (own := [("at", 3), ("_", 5)]) (g := g2 K 3 5) (tt := tYes) rfl S.nd (pi_list (pv 1)) (blkOk_by (N := ["points", "pairs", "point", "at", "value", "_"]) (sc := defScope s_read_points) (by decide +kernel)) (fun _ _ _ _ _ => pg_tup rfl (pgs_cons (pg_name (i := 3) S.nd rfl (Or.inl rfl)) (pgs_cons (pg_name (i := 5) S.nd rfl (Or.inl rfl)) pgs_nil))) (fun _ _ _ _ _ => pts_nil) (fun _ _ _ _ _ => (pv 3))) pa_nil)) pa_nil)) (pe_callB call_lenU (by rfl) T.n_len PySem.boot_len (pa_cons (pv 1) pa_nil)) (nomark _)) (pss_one (ps_raise rfl (takes_of rfl rfl rfl rfl) (pmk_mkX E_Misfit hA hr (by decide) (by rfl) (pa_cons pe_str pa_nil)))) pss_nil)
      (pss_one (ps_ret (pv 1)))))), ?_⟩
    rcases h with ⟨hbad, k⟩ | ⟨n, hse, hok, hn, hl, nd, k⟩
    · by_cases hse : isSeqD dd = true
      · obtain ⟨a, xs, ds, rfl, na, hs, hall, edd⟩ := hdd.seq hse
        have eit : itemsD dd = ds := by rcases edd with rfl | rfl <;> rfl
        rw [eit] at hlen
        have hno : (decide (ds.length ≤ 40) && (ds.map isPlD).all id) = false := by
          unfold isPtsD at hbad
          rw [hse, eit, Bool.true_and] at hbad
          exact hbad
        have hll := hall.len
        walk_at "mf"
        refine ⟨q, .ref a, dd, rfl, hdd, ?_⟩
        rw [hse]
        walk_at "mf"
        refine g_len hs ?_
        walk_at "mf"
        by_cases h40 : ds.length ≤ 40
        · rw [decide_eq_true h40, Bool.true_and] at hno
          rw [decide_eq_false (show ¬ (40 : Int) < ((xs.length : Nat) : Int) by omega)]
          walk_at "mf"
          refine cut_lc (fun (H1 : Hp) (D : Addr) => H1 D = some (.lst ((ds.map isPlD).map V.bl))) (fun Q' k' => ?_) (fun H1 D s1 e1 => ?_)
          · rcases hs with hs | hs
            · refine g_lcO1 ?_
              walk_at "mf"
              refine ⟨a, rfl, ⟨_, hs⟩, ?_⟩
              refine lcgo_listF (xs := xs) (fun D i H' => Same H H' ∧ H' D = some (.lst (((ds.map isPlD).take i).map V.bl))) (fun z => rfl) (fun D hD => ⟨same_new hD, upd_same⟩) (fun D i H' _ h => h.1.seq hs) (fun D i z H' hD ez h => ?_) (fun D H' hD h => ?_)
              · obtain ⟨h1, h2⟩ := h
                obtain ⟨d, ed, hd⟩ := hall.get ez
                have hi := (List.getElem?_eq_some_iff.mp ez).1
                walk_at "mf"
                refine ⟨q, z, d, rfl, hd.go (Same.x h1), ?_⟩
                refine ⟨_, h2, ?_, ?_, ?_⟩
                · rw [List.length_map, List.length_take, List.length_map]
                  exact small1000 (by omega)
                · intro b o e
                  rw [upd_ne (ne_of_none e hD)]
                  exact h1 b o e
                · have eq1 : (ds.map isPlD)[i]? = some (isPlD d) := by rw [List.getElem?_map, ed]; rfl
                  rw [upd_same, take_snoc eq1, List.map_append]
                  rfl
              · obtain ⟨h1, h2⟩ := h
                exact k' H' D h1 (by rw [h2, hall.len, show ds.length = (ds.map isPlD).length by rw [List.length_map], List.take_length])
            · refine g_lcO2 ?_
              walk_at "mf"
              refine ⟨a, rfl, ⟨_, hs⟩, ?_⟩
              refine lcgo_tupF (xs := xs) (fun D i H' => Same H H' ∧ H' D = some (.lst (((ds.map isPlD).take i).map V.bl))) (fun z => rfl) (fun D hD => ⟨same_new hD, upd_same⟩) (fun D i H' _ h => (Same.x (q := q) h.1).tup na hs) (fun D i z H' hD ez h => ?_) (fun D H' hD h => ?_)
              · obtain ⟨h1, h2⟩ := h
                obtain ⟨d, ed, hd⟩ := hall.get ez
                have hi := (List.getElem?_eq_some_iff.mp ez).1
                walk_at "mf"
                refine ⟨q, z, d, rfl, hd.go (Same.x h1), ?_⟩
                refine ⟨_, h2, ?_, ?_, ?_⟩
                · rw [List.length_map, List.length_take, List.length_map]
                  exact small1000 (by omega)
                · intro b o e
                  rw [upd_ne (ne_of_none e hD)]
                  exact h1 b o e
                · have eq1 : (ds.map isPlD)[i]? = some (isPlD d) := by rw [List.getElem?_map, ed]; rfl
                  rw [upd_same, take_snoc eq1, List.map_append]
                  rfl
              · obtain ⟨h1, h2⟩ := h
                exact k' H' D h1 (by rw [h2, hall.len, show ds.length = (ds.map isPlD).length by rw [List.length_map], List.take_length])
          walk_at "mf"
          refine g_all (seqU e1) ?_
          rw [hno]
          walk_at "mf"
          exact ⟨rfl, fun dd H' n' s' e => (k.go s1) dd H' n' s' e⟩
        · rw [decide_eq_true (show (40 : Int) < ((xs.length : Nat) : Int) by omega)]
          walk_at "mf"
          exact ⟨rfl, fun dd H' n' s' e => k dd H' n' s' e⟩
      · have hse : isSeqD dd = false := by simpa using hse
        walk_at "mf"
        refine ⟨q, v, dd, rfl, hdd, ?_⟩
        rw [hse]
        walk_at "mf"
        exact ⟨rfl, fun dd H' n' s' e => k dd H' n' s' e⟩
    · obtain ⟨a, xs, ds, rfl, na, hs, hall, edd⟩ := hdd.seq hse
      have eit : itemsD dd = ds := by rcases edd with rfl | rfl <;> rfl
      rw [eit] at hok hl nd
      have hlen := hall.len
      walk_at "mf"
      refine ⟨q, .ref a, dd, rfl, hdd, ?_⟩
      rw [hse]
      walk_at "mf"
      refine g_len hs ?_
      walk_at "mf"
      rw [decide_eq_false (show ¬ (40 : Int) < ((xs.length : Nat) : Int) by omega)]
      walk_at "mf"
      refine cut_lc (fun (H1 : Hp) (D : Addr) => H1 D = some (.lst ((List.replicate xs.length true).map V.bl))) (fun Q' k' => ?_) (fun H1 D s1 e1 => ?_)
      · rcases hs with hs | hs
        · refine g_lcO1 ?_
          walk_at "mf"
          refine ⟨a, rfl, ⟨_, hs⟩, ?_⟩
          refine lcgo_listF (xs := xs) (fun D i H' => Same H H' ∧ H' D = some (.lst (List.replicate i (V.bl true)))) (fun z => rfl) (fun D hD => ⟨same_new hD, upd_same⟩) (fun D i H' _ h => h.1.seq hs) (fun D i z H' hD ez h => ?_) (fun D H' hD h => ?_)
          · obtain ⟨h1, h2⟩ := h
            obtain ⟨d, ed, hd⟩ := hall.get ez
            have hi := (List.getElem?_eq_some_iff.mp ez).1
            walk_at "mf"
            refine ⟨q, z, d, rfl, hd.go (Same.x h1), ?_⟩
            rw [(hok d (List.mem_of_getElem? ed)).pl]
            refine ⟨_, h2, ?_, ?_, ?_⟩
            · rw [List.length_replicate]
              exact small1000 (by rw [hall.len] at hi; omega)
            · intro b o e
              rw [upd_ne (ne_of_none e hD)]
              exact h1 b o e
            · rw [upd_same, List.replicate_succ']
          · obtain ⟨h1, h2⟩ := h
            exact k' H' D h1 (by rw [h2, List.map_replicate])
        · refine g_lcO2 ?_
          walk_at "mf"
          refine ⟨a, rfl, ⟨_, hs⟩, ?_⟩
          refine lcgo_tupF (xs := xs) (fun D i H' => Same H H' ∧ H' D = some (.lst (List.replicate i (V.bl true)))) (fun z => rfl) (fun D hD => ⟨same_new hD, upd_same⟩) (fun D i H' _ h => (Same.x (q := q) h.1).tup na hs) (fun D i z H' hD ez h => ?_) (fun D H' hD h => ?_)
          · obtain ⟨h1, h2⟩ := h
            obtain ⟨d, ed, hd⟩ := hall.get ez
            have hi := (List.getElem?_eq_some_iff.mp ez).1
            walk_at "mf"
            refine ⟨q, z, d, rfl, hd.go (Same.x h1), ?_⟩
            rw [(hok d (List.mem_of_getElem? ed)).pl]
            refine ⟨_, h2, ?_, ?_, ?_⟩
            · rw [List.length_replicate]
              exact small1000 (by rw [hall.len] at hi; omega)
            · intro b o e
              rw [upd_ne (ne_of_none e hD)]
              exact h1 b o e
            · rw [upd_same, List.replicate_succ']
          · obtain ⟨h1, h2⟩ := h
            exact k' H' D h1 (by rw [h2, List.map_replicate])
      walk_at "mf"
      refine g_all (seqU e1) ?_
      rw [all_rep]
      walk_at "mf"
      refine cut_lc (fun (H2 : Hp) (D : Addr) => H1 D = none ∧ ∃ vs, H2 D = some (.lst vs) ∧ vs.length = ds.length ∧ PP H2 vs (ds.map xy)) (fun Q' k' => ?_) (fun H2 D2 s2 e2 => ?_)
      · have hs := hs.go (Same.x (q := q) s1) na
        rcases hs with hs | hs
        · refine g_lcO1 ?_
          walk_at "mf"
          refine ⟨a, rfl, ⟨_, hs⟩, ?_⟩
          refine lcgo_listO (xs := xs) (fun D i H' => Same H1 H' ∧ ∃ vs, H' D = some (.lst vs) ∧ vs.length = i ∧ PP H' vs ((ds.map xy).take i)) (fun x y => rfl) (fun D hD => ⟨same_new hD, [], upd_same, rfl, .nil⟩) (fun D i H' _ h => h.1.seq hs) (fun D i z H' hD ez h => ?_) (fun D H' hD h => ?_)
          · obtain ⟨h1, vs, h2, h3, h4⟩ := h
            obtain ⟨d, ed, hd⟩ := hall.get ez
            have hi := (List.getElem?_eq_some_iff.mp ez).1
            rw [hall.len] at hi
            obtain ⟨b, u, v, rfl, nb, hb, fu, fv⟩ := (hok d (List.mem_of_getElem? ed)).un (hd.go (Same.x (s1.trans h1)))
            refine ⟨b, u, v, rfl, hb, ?_⟩
            obtain ⟨du, hu, fu1, fu2, fu3, fu4, fu5⟩ := fu
            obtain ⟨dv, hv, fv1, fv2, fv3, fv4, fv5⟩ := fv
            walk_at "mf"
            refine ⟨q, u, _, n, rfl, ⟨du, hu, fu1, fu2, fu3, fu4, fu5⟩, by omega, fun p3 H3 s3 n3 e3 => ?_⟩
            walk_at "mf"
            refine ⟨q, v, _, n, rfl, ⟨dv, hv.go (Same.x s3), fv1, fv2, fv3, fv4, fv5⟩, by omega, fun p4 H4 s4 n4 e4 => ?_⟩
            walk_at "mf"
            refine g_newT (by show 2 ≤ sizeLine; decide) fun p5 H5 n5 s5 e5 => ?_
            have sA := (s3.trans s4).trans s5
            have eD := sA _ _ h2
            have kt := upd_kt (o := .lst (vs ++ [.ref p5])) eD
            refine ⟨vs, eD, small1000 (by omega), ?_, vs ++ [.ref p5], upd_same, by rw [List.length_append, h3]; rfl, ?_⟩
            · intro b o e
              rw [upd_ne (ne_of_none e hD)]
              exact sA _ _ (h1 _ _ e)
            · have eq1 : (ds.map xy)[i]? = some (xy d) := by rw [List.getElem?_map, ed]; rfl
              rw [take_snoc eq1]
              exact ((h4.go (Same.kt sA)).go kt).snoc (kt _ _ e5) (kt _ _ (s5 _ _ (s4 _ _ e3))) (kt _ _ (s5 _ _ e4))
          · obtain ⟨h1, vs, h2, h3, h4⟩ := h
            rw [hall.len, show ds.length = (ds.map xy).length by rw [List.length_map], List.take_length] at h4
            exact k' H' D h1 ⟨hD, vs, h2, by rw [h3, hall.len], h4⟩
        · refine g_lcO2 ?_
          walk_at "mf"
          refine ⟨a, rfl, ⟨_, hs⟩, ?_⟩
          refine lcgo_tupO (xs := xs) (fun D i H' => Same H1 H' ∧ ∃ vs, H' D = some (.lst vs) ∧ vs.length = i ∧ PP H' vs ((ds.map xy).take i)) (fun x y => rfl) (fun D hD => ⟨same_new hD, [], upd_same, rfl, .nil⟩) (fun D i H' _ h => (Same.x (q := q) h.1).tup na hs) (fun D i z H' hD ez h => ?_) (fun D H' hD h => ?_)
          · obtain ⟨h1, vs, h2, h3, h4⟩ := h
            obtain ⟨d, ed, hd⟩ := hall.get ez
            have hi := (List.getElem?_eq_some_iff.mp ez).1
            rw [hall.len] at hi
            obtain ⟨b, u, v, rfl, nb, hb, fu, fv⟩ := (hok d (List.mem_of_getElem? ed)).un (hd.go (Same.x (s1.trans h1)))
            refine ⟨b, u, v, rfl, hb, ?_⟩
            obtain ⟨du, hu, fu1, fu2, fu3, fu4, fu5⟩ := fu
            obtain ⟨dv, hv, fv1, fv2, fv3, fv4, fv5⟩ := fv
            walk_at "mf"
            refine ⟨q, u, _, n, rfl, ⟨du, hu, fu1, fu2, fu3, fu4, fu5⟩, by omega, fun p3 H3 s3 n3 e3 => ?_⟩
            walk_at "mf"
            refine ⟨q, v, _, n, rfl, ⟨dv, hv.go (Same.x s3), fv1, fv2, fv3, fv4, fv5⟩, by omega, fun p4 H4 s4 n4 e4 => ?_⟩
            walk_at "mf"
            refine g_newT (by show 2 ≤ sizeLine; decide) fun p5 H5 n5 s5 e5 => ?_
            have sA := (s3.trans s4).trans s5
            have eD := sA _ _ h2
            have kt := upd_kt (o := .lst (vs ++ [.ref p5])) eD
            refine ⟨vs, eD, small1000 (by omega), ?_, vs ++ [.ref p5], upd_same, by rw [List.length_append, h3]; rfl, ?_⟩
            · intro b o e
              rw [upd_ne (ne_of_none e hD)]
              exact sA _ _ (h1 _ _ e)
            · have eq1 : (ds.map xy)[i]? = some (xy d) := by rw [List.getElem?_map, ed]; rfl
              rw [take_snoc eq1]
              exact ((h4.go (Same.kt sA)).go kt).snoc (kt _ _ e5) (kt _ _ (s5 _ _ (s4 _ _ e3))) (kt _ _ (s5 _ _ e4))
          · obtain ⟨h1, vs, h2, h3, h4⟩ := h
            rw [hall.len, show ds.length = (ds.map xy).length by rw [List.length_map], List.take_length] at h4
            exact k' H' D h1 ⟨hD, vs, h2, by rw [h3, hall.len], h4⟩
      obtain ⟨n2, vs, e2, l2, t2⟩ := e2
      walk_at "mf"
      refine ⟨D2, rfl, ⟨_, seqU e2⟩, ?_⟩
      refine lcgo_listP (xs := vs) (fun D i H' => Same H2 H' ∧ ∃ us, H' D = some (.lst us) ∧ us.length = i ∧ TL H' us ((ds.map fun d => (xy d).1).take i)) (fun x y => rfl) (fun D hD => ⟨same_new hD, [], upd_same, rfl, .nil⟩) (fun D i H' _ h => seqU (h.1 _ _ e2)) (fun D i z H' hD ez h => ?_) (fun D H3 hD h => ?_)
      · obtain ⟨h1, us, h2, h3, h4⟩ := h
        obtain ⟨c, p1, p2, r, rfl, er, ec, ep1, ep2⟩ := (t2.go (Same.kt h1)).get ez
        have hi := (List.getElem?_eq_some_iff.mp ez).1
        refine ⟨c, _, _, rfl, tupU ec, ?_⟩
        walk_at "mf"
        have kt := upd_kt (o := .lst (us ++ [.ref p1])) h2
        refine ⟨us, h2, small1000 (by omega), ?_, us ++ [.ref p1], upd_same, by rw [List.length_append, h3]; rfl, ?_⟩
        · intro b o e
          rw [upd_ne (ne_of_none e hD)]
          exact h1 _ _ e
        · have eq1 : (ds.map fun d => (xy d).1)[i]? = some r.1 := by
            rw [List.getElem?_map] at er ⊢
            obtain ⟨d, e1, e2⟩ := Option.map_eq_some_iff.mp er
            rw [e1, ← e2]
            rfl
          rw [take_snoc eq1]
          exact (h4.go kt).snoc (kt _ _ ep1)
      obtain ⟨s3, us, h2, h3, h4⟩ := h
      rw [l2, show ds.length = (ds.map fun d => (xy d).1).length by rw [List.length_map], List.take_length] at h4
      obtain ⟨ks, ek, hk1, hk2⟩ := TL.keys h4
      have lks : ks.length = ds.length := by
        have := congrArg List.length hk2
        rw [List.length_map, List.length_map, List.length_map] at this
        exact this
      subst ek
      walk_at "mf"
      refine ⟨D, ks, rfl, seqU h2, fun p hp => tupU (hk1 p hp), by omega, fun sa L nsa hL1 hL2 => ?_⟩
      have s4 : Same H3 (upd H3 sa (SetTO P w sa L)) := same_new nsa
      walk_at "mf"
      refine ⟨sa, L, rfl, upd_same, fun p hp => tupU (s4 _ _ (hk1 p (hL1 p hp))), fun ndL => ?_⟩
      have lL : L.length < ks.length := keys_lt (by rw [hk2]; exact keys_dup nd) ndL hL1
      walk_at "mf"
      refine g_len (.inl (seqU (s4 _ _ (s3 _ _ e2)))) ?_
      walk_at "mf"
      rw [decide_eq_true (show ((L.length : Nat) : Int) < ((vs.length : Nat) : Int) by omega)]
      walk_at "mf"
      have sA := ((s1.trans s2).trans s3).trans s4
      exact ⟨rfl, fun dd H' n' s' e => (k.go sA) dd H' n' s' e⟩
end Mf
namespace Mf
open PySem PySem.Spec PyProof.Rows L2
local macro_rules | `(tactic| walk_at "mf1") => `(tactic| first
  | ((with_reducible apply g_var); exact rfl)
  | with_reducible first
    | refine g_c ?_ | refine g_op ?_ | refine g_un ?_ | refine g_cb ?_ | refine g_cl ?_ | refine g_clX ?_ | refine g_mkR ?_ | refine g_clk ?_ | refine g_nil ?_ | refine g_cons ?_
    | refine g_tB ?_ | refine g_test ?_ | refine g_bl ?_ | refine g_and ?_ | refine g_or ?_ | refine g_not ?_ | refine g_andV ?_ | refine g_orV ?_ | refine g_notV ?_
    | refine g_if ?_ | refine g_ifS ?_ | refine g_seq ?_ | refine g_next ?_ | refine g_ret ?_ | refine g_drop ?_ | refine g_asg ?_ | refine g_name ?_ | refine g_sub ?_
    | refine g_int ?_ | refine g_intB ?_ | refine g_abs ?_ | refine g_I0 ?_ | refine g_addI ?_ | refine g_U ?_ | refine g_isNn ?_ | refine g_isNi ?_ | refine g_notN ?_ | refine g_notT1 ?_ | refine g_notT2 ?_ | refine g_notT3 ?_ | refine g_notT4 ?_ | refine g_notTb ?_ | refine g_notTi ?_ | refine g_eqI ?_ | refine g_neI ?_ | refine g_neSs ?_ | refine g_neS ?_ | refine g_eqS ?_
    | refine g_iteT ?_ | refine g_iteF ?_ | refine g_iteNT ?_ | refine g_iteNF ?_ | refine g_lst ?_ | refine g_tup ?_ | refine g_seqP ?_ | refine g_sl ?_ | refine g_noPart ?_ | refine g_part ?_ | refine g_yes ?_ | refine g_thenT ?_ | refine g_consG ?_ | refine g_nilG ?_ | refine g_ii ?_ | refine g_par ?_ | refine g_par3 ?_ | refine g_vv ?_ | refine g_vvv ?_ | refine g_reprB ?_ | refine g_lcL ?_ | refine g_lcR ?_
  | ((with_reducible refine g_mod ?_ ?_); (first | omega | decide))
  | ((with_reducible refine g_div ?_ ?_ ?_); (first | omega | decide); (first | assumption | decide))
  | ((with_reducible refine g_mulL ?_ ?_ ?_); (first | omega | decide); (first | omega | decide))
  | ((with_reducible refine g_mulR ?_ ?_ ?_); (first | omega | decide); (first | omega | decide))
  | ((with_reducible refine g_pow ?_ ?_ ?_ ?_); decide; decide; (first | omega | decide))
  | dsimp only)
local macro_rules | `(tactic| walk_at "mf1s") => `(tactic| first
  | ((with_reducible apply g_var); exact rfl)
  | with_reducible first
    | refine g_c ?_ | refine g_op ?_ | refine g_un ?_ | refine g_cb ?_ | refine g_cl ?_ | refine g_clX ?_ | refine g_mkR ?_ | refine g_clk ?_ | refine g_nil ?_ | refine g_cons ?_
    | refine g_tB ?_ | refine g_test ?_ | refine g_bl ?_ | refine g_and ?_ | refine g_or ?_ | refine g_not ?_ | refine g_andV ?_ | refine g_orV ?_ | refine g_notV ?_
    | refine g_if ?_ | refine g_ifS ?_ | refine g_next ?_ | refine g_ret ?_ | refine g_drop ?_ | refine g_asg ?_ | refine g_name ?_ | refine g_sub ?_
    | refine g_int ?_ | refine g_intB ?_ | refine g_abs ?_ | refine g_I0 ?_ | refine g_addI ?_ | refine g_U ?_ | refine g_isNn ?_ | refine g_isNi ?_ | refine g_notN ?_ | refine g_notT1 ?_ | refine g_notT2 ?_ | refine g_notT3 ?_ | refine g_notT4 ?_ | refine g_notTb ?_ | refine g_notTi ?_ | refine g_eqI ?_ | refine g_neI ?_ | refine g_neSs ?_ | refine g_neS ?_ | refine g_eqS ?_
    | refine g_iteT ?_ | refine g_iteF ?_ | refine g_iteNT ?_ | refine g_iteNF ?_ | refine g_lst ?_ | refine g_tup ?_ | refine g_seqP ?_ | refine g_sl ?_ | refine g_noPart ?_ | refine g_part ?_ | refine g_yes ?_ | refine g_thenT ?_ | refine g_consG ?_ | refine g_nilG ?_ | refine g_ii ?_ | refine g_par ?_ | refine g_par3 ?_ | refine g_vv ?_ | refine g_vvv ?_ | refine g_reprB ?_ | refine g_lcL ?_ | refine g_lcR ?_
  | ((with_reducible refine g_mod ?_ ?_); (first | omega | decide))
  | ((with_reducible refine g_div ?_ ?_ ?_); (first | omega | decide); (first | assumption | decide))
  | ((with_reducible refine g_mulL ?_ ?_ ?_); (first | omega | decide); (first | omega | decide))
  | ((with_reducible refine g_mulR ?_ ?_ ?_); (first | omega | decide); (first | omega | decide))
  | ((with_reducible refine g_pow ?_ ?_ ?_ ?_); decide; decide; (first | omega | decide))
  | dsimp only)
local macro_rules | `(tactic| walk_at "mfs") => `(tactic| repeat walk_at "mf1s")
local macro_rules | `(tactic| walk_at "mf") => `(tactic| repeat walk_at "mf1")
local macro_rules | `(tactic| walk_at "ed") => `(tactic| repeat (first
  | with_reducible first
    | exact eds_nil | apply eds_cons | exact ed_int | exact ed_bl | exact ed_non | apply ed_neg
  | ((with_reducible apply ed_str); decide)
  | ((with_reducible apply ed_var); (exact rfl); (first | assumption | exact Dq.int _))
  | ((with_reducible apply ed_dict0); assumption)
  | ((with_reducible apply ed_dict2); assumption)
  | ((with_reducible apply ed_tup); assumption)
  | ((with_reducible apply ed_lst); assumption)
  | (with_reducible apply ed_pow)
  | (with_reducible apply ed_mul)
  | assumption
  | (exact Dq.int _)
  | (exact ⟨by decide, by decide, by decide⟩)
  | (show List.length _ ≤ 1000; simp only [List.length_cons, List.length_nil]; decide)))
theorem okX_poly_through (c : Cn) (T : Tx c) {CP CN CM CT F : Addr} (Er : Errs c CP CN CM CT F) : ClX c 7 "poly_through" s_poly_through ["points"] (sp_ptsB CP CM c.K) := by
  have E_BadPoly := ec_BadPoly c Er.poly
  have E_BadNumber := ec_BadNumber c Er.num
  have E_Misfit := ec_Misfit c Er.mis
  have E_TooMany := ec_TooMany c Er.tm
  obtain ⟨P, w, K, mg, base⟩ := c
  have C_over_one_down := ok_over_one_down _ T
  have C_reduced := ok_reduced _ T
  have C_share_at := ok_share_at _ T
  have C_times_factor := ok_times_factor _ T
  have C_trimmed := ok_trimmed _ T
  have C_without_factor := ok_without_factor _ T
  have CX_read_points := okX_read_points _ T Er
  refine De.clX (N := ["points", "pairs", "product", "at", "_", "ups", "down", "parts", "total", "k", "up", "part"]) T.d_poly_through sc_poly_through (fun vs H Q E h => ?_) (fun f0 cdv A outer s H vs Q E hA hr h => ?_)
  · obtain ⟨q, v, d, rfl, _⟩ := h; rfl
  · have S := sc_poly_through
    obtain ⟨q, v, d, rfl, h⟩ := h
    refine ⟨_, (pss_cons (ps_set (i := 1) S.nd rfl (by first | exact .inl rfl | exact .inr rfl) (pe_fX CX_read_points hA hr (by decide) pl_read_points (by rfl) (fun σ => passAt (takes_of rfl rfl rfl rfl) σ) (pa_cons (pv 0) pa_nil)))
      (pss_cons (ps_set (i := 2) S.nd rfl (by first | exact .inl rfl | exact .inr rfl) (pe_lst (pa_cons pe_int pa_nil)))
      (pss_cons (ps_for (by with_unfolding_all passes_own) rfl (pi_list (pv 1)) (pg_tup rfl (pgs_cons (pg_name (i := 3) S.nd rfl (by first | exact .inl rfl | exact .inr rfl)) (pgs_cons (pg_name (i := 4) S.nd rfl (by first | exact .inl rfl | exact .inr rfl)) pgs_nil))) (pss_one (ps_set (i := 2) S.nd rfl (by first | exact .inl rfl | exact .inr rfl) (pe_f C_times_factor hA hr (by decide) pl_times_factor (by rfl) (pa_cons (pv 2) (pa_cons (pv 3) pa_nil))))))
      (pss_cons (ps_asg (pe_f C_over_one_down hA hr (by decide) pl_over_one_down (by rfl) (pa_cons (pe_lc (own := [("k", 9)]) (g := gName 9) (tt := tYes) rfl S.nd (pi_range1 rfl T.n_range (pa_cons (pe_callB call_lenU (by rfl) T.n_len PySem.boot_len (pa_cons (pv 1) pa_nil)) pa_nil)) (blkOk_by (N := ["points", "pairs", "product", "at", "_", "ups", "down", "parts", "total", "k", "up", "part"]) (sc := defScope s_poly_through) (by decide +kernel)) (fun _ _ _ _ _ => pg_name (i := 9) S.nd rfl (Or.inl rfl)) (fun _ _ _ _ _ => pts_nil) (fun _ _ _ _ _ => (pe_f C_share_at hA hr (by decide) pl_share_at (by rfl) (pa_cons (pv 1) (pa_cons (pv 9) pa_nil))))) pa_nil)) (pg_tup rfl (pgs_cons (pg_name (i := 5) S.nd rfl (by first | exact .inl rfl | exact .inr rfl)) (pgs_cons (pg_name (i := 6) S.nd rfl (by first | exact .inl rfl | exact .inr rfl)) pgs_nil))))
      (pss_cons (ps_setLc (i := 7) (own := [("at", 3), ("_", 4)]) (g := g2 K 3 4) (tt := tYes) rfl S.nd rfl rfl (sw_true rfl rfl rfl (by decide +kernel)) (pi_list (pv 1)) (blkOk_by (N := ["points", "pairs", "product", "at", "_", "ups", "down", "parts", "total", "k", "up", "part"]) (sc := defScope s_poly_through) (by decide +kernel)) (fun _ _ _ _ _ => pg_tup rfl (pgs_cons (pg_name (i := 3) S.nd rfl (Or.inl rfl)) (pgs_cons (pg_name (i := 4) S.nd rfl (Or.inl rfl)) pgs_nil))) (fun _ _ _ _ _ => pts_nil) (fun _ _ _ _ _ => (pe_f C_without_factor hA hr (by decide) pl_without_factor (by rfl) (pa_cons (pv 2) (pa_cons (pv 3) pa_nil)))))
      (pss_cons (ps_set (i := 8) S.nd rfl (by first | exact .inl rfl | exact .inr rfl) (pe_lst pa_nil))
      (pss_cons (ps_for (by with_unfolding_all passes_own) rfl (pi_range1 rfl T.n_range (pa_cons (pe_callB call_lenU (by rfl) T.n_len PySem.boot_len (pa_cons (pv 1) pa_nil)) pa_nil)) (pg_name (i := 9) S.nd rfl (by first | exact .inl rfl | exact .inr rfl)) (pss_one (ps_expr (pe_bm PySem.F.plainAttrs_list PySem.F.slot_list_append PySem.F.type_list_append mt_append (pv 8) (pa_cons (pe_f C_reduced hA hr (by decide) pl_reduced (by rfl) (pa_cons (pe_callB (cr_sum rfl) (by rfl) T.n_sum (show bootBuiltins "sum" = some (.builtin "sum") by decide +kernel) (pa_cons (pe_lc (own := [("up", 10), ("part", 11)]) (g := g2 K 10 11) (tt := tYes) rfl S.nd (pi_zip (by rfl) T.n_zip (pa_cons (pv 5) (pa_cons (pv 7) pa_nil))) (blkOk_by (N := ["points", "pairs", "product", "at", "_", "ups", "down", "parts", "total", "k", "up", "part"]) (sc := defScope s_poly_through) (by decide +kernel)) (fun _ _ _ _ _ => pg_tup rfl (pgs_cons (pg_name (i := 10) S.nd rfl (Or.inl rfl)) (pgs_cons (pg_name (i := 11) S.nd rfl (Or.inl rfl)) pgs_nil))) (fun _ _ _ _ _ => pts_nil) (fun _ _ _ _ _ => (pe_op op_mulU (pv 10) (pe_ix (show IxR _ (rIx K) from ix_seq) (pv 11) (pv 9) (fun _ _ => rfl))))) pa_nil)) (pa_cons (pv 6) pa_nil))) pa_nil)))))
      (pss_one (ps_ret (pe_f C_trimmed hA hr (by decide) pl_trimmed (by rfl) (pa_cons (pv 8) pa_nil))))))))))), ?_⟩
    walk_at "mf"
    exact ⟨q, v, d, rfl, h⟩
end Mf
namespace Mf
open PySem PySem.Spec PyProof.Rows L2
local macro_rules | `(tactic| walk_at "mf1") => `(tactic| first
  | ((with_reducible apply g_var); exact rfl)
  | with_reducible first
    | refine g_c ?_ | refine g_op ?_ | refine g_un ?_ | refine g_cb ?_ | refine g_cl ?_ | refine g_clX ?_ | refine g_mkR ?_ | refine g_clk ?_ | refine g_nil ?_ | refine g_cons ?_
    | refine g_tB ?_ | refine g_test ?_ | refine g_bl ?_ | refine g_and ?_ | refine g_or ?_ | refine g_not ?_ | refine g_andV ?_ | refine g_orV ?_ | refine g_notV ?_
    | refine g_if ?_ | refine g_ifS ?_ | refine g_seq ?_ | refine g_next ?_ | refine g_ret ?_ | refine g_drop ?_ | refine g_asg ?_ | refine g_name ?_ | refine g_sub ?_
    | refine g_int ?_ | refine g_intB ?_ | refine g_abs ?_ | refine g_I0 ?_ | refine g_addI ?_ | refine g_U ?_ | refine g_isNn ?_ | refine g_isNi ?_ | refine g_notN ?_ | refine g_notT1 ?_ | refine g_notT2 ?_ | refine g_notT3 ?_ | refine g_notT4 ?_ | refine g_notTb ?_ | refine g_notTi ?_ | refine g_eqI ?_ | refine g_neI ?_ | refine g_neSs ?_ | refine g_neS ?_ | refine g_eqS ?_
    | refine g_iteT ?_ | refine g_iteF ?_ | refine g_iteNT ?_ | refine g_iteNF ?_ | refine g_lst ?_ | refine g_tup ?_ | refine g_seqP ?_ | refine g_sl ?_ | refine g_noPart ?_ | refine g_part ?_ | refine g_yes ?_ | refine g_thenT ?_ | refine g_consG ?_ | refine g_nilG ?_ | refine g_ii ?_ | refine g_par ?_ | refine g_par3 ?_ | refine g_vv ?_ | refine g_vvv ?_ | refine g_reprB ?_ | refine g_lcL ?_ | refine g_lcR ?_
  | ((with_reducible refine g_mod ?_ ?_); (first | omega | decide))
  | ((with_reducible refine g_div ?_ ?_ ?_); (first | omega | decide); (first | assumption | decide))
  | ((with_reducible refine g_mulL ?_ ?_ ?_); (first | omega | decide); (first | omega | decide))
  | ((with_reducible refine g_mulR ?_ ?_ ?_); (first | omega | decide); (first | omega | decide))
  | ((with_reducible refine g_pow ?_ ?_ ?_ ?_); decide; decide; (first | omega | decide))
  | dsimp only)
local macro_rules | `(tactic| walk_at "mf1s") => `(tactic| first
  | ((with_reducible apply g_var); exact rfl)
  | with_reducible first
    | refine g_c ?_ | refine g_op ?_ | refine g_un ?_ | refine g_cb ?_ | refine g_cl ?_ | refine g_clX ?_ | refine g_mkR ?_ | refine g_clk ?_ | refine g_nil ?_ | refine g_cons ?_
    | refine g_tB ?_ | refine g_test ?_ | refine g_bl ?_ | refine g_and ?_ | refine g_or ?_ | refine g_not ?_ | refine g_andV ?_ | refine g_orV ?_ | refine g_notV ?_
    | refine g_if ?_ | refine g_ifS ?_ | refine g_next ?_ | refine g_ret ?_ | refine g_drop ?_ | refine g_asg ?_ | refine g_name ?_ | refine g_sub ?_
    | refine g_int ?_ | refine g_intB ?_ | refine g_abs ?_ | refine g_I0 ?_ | refine g_addI ?_ | refine g_U ?_ | refine g_isNn ?_ | refine g_isNi ?_ | refine g_notN ?_ | refine g_notT1 ?_ | refine g_notT2 ?_ | refine g_notT3 ?_ | refine g_notT4 ?_ | refine g_notTb ?_ | refine g_notTi ?_ | refine g_eqI ?_ | refine g_neI ?_ | refine g_neSs ?_ | refine g_neS ?_ | refine g_eqS ?_
    | refine g_iteT ?_ | refine g_iteF ?_ | refine g_iteNT ?_ | refine g_iteNF ?_ | refine g_lst ?_ | refine g_tup ?_ | refine g_seqP ?_ | refine g_sl ?_ | refine g_noPart ?_ | refine g_part ?_ | refine g_yes ?_ | refine g_thenT ?_ | refine g_consG ?_ | refine g_nilG ?_ | refine g_ii ?_ | refine g_par ?_ | refine g_par3 ?_ | refine g_vv ?_ | refine g_vvv ?_ | refine g_reprB ?_ | refine g_lcL ?_ | refine g_lcR ?_
  | ((with_reducible refine g_mod ?_ ?_); (first | omega | decide))
  | ((with_reducible refine g_div ?_ ?_ ?_); (first | omega | decide); (first | assumption | decide))
  | ((with_reducible refine g_mulL ?_ ?_ ?_); (first | omega | decide); (first | omega | decide))
  | ((with_reducible refine g_mulR ?_ ?_ ?_); (first | omega | decide); (first | omega | decide))
  | ((with_reducible refine g_pow ?_ ?_ ?_ ?_); decide; decide; (first | omega | decide))
  | dsimp only)
local macro_rules | `(tactic| walk_at "mfs") => `(tactic| repeat walk_at "mf1s")
local macro_rules | `(tactic| walk_at "mf") => `(tactic| repeat walk_at "mf1")
local macro_rules | `(tactic| walk_at "ed") => `(tactic| repeat (first
  | with_reducible first
    | exact eds_nil | apply eds_cons | exact ed_int | exact ed_bl | exact ed_non | apply ed_neg
  | ((with_reducible apply ed_str); decide)
  | ((with_reducible apply ed_var); (exact rfl); (first | assumption | exact Dq.int _))
  | ((with_reducible apply ed_dict0); assumption)
  | ((with_reducible apply ed_dict2); assumption)
  | ((with_reducible apply ed_tup); assumption)
  | ((with_reducible apply ed_lst); assumption)
  | (with_reducible apply ed_pow)
  | (with_reducible apply ed_mul)
  | assumption
  | (exact Dq.int _)
  | (exact ⟨by decide, by decide, by decide⟩)
  | (show List.length _ ≤ 1000; simp only [List.length_cons, List.length_nil]; decide)))
abbrev NH : List Str := ["ask", "caught", "error", "kinds", "words", "word", "is_so"]
def wds (b1 b2 b3 : Bool) (n : Nat) : List V := ((([(("poly" : Str), b1), ("number", b2), ("misfit", b3)] : List (Str × Bool)).take n).filter (·.2)).map (fun p => V.str p.1)
theorem wds_lt {b1 b2 b3 : Bool} {n : Nat} : (wds b1 b2 b3 n).length < sizeLine := Nat.lt_of_le_of_lt (by
  unfold wds
  rw [List.length_map]
  exact Nat.le_trans (List.length_filter_le _ _) (by rw [List.length_take]; exact Nat.min_le_right _ _)) (show 3 < sizeLine by decide)
theorem g_kat {K : PySem.W.Frag} {f : Str} {te : TE} {σ : L2.St} {H : Hp} {Q : VK} (q : te σ H fun x H1 => ∃ (a C : Addr) (fs : List (Str × V)) (v : V), x = .ref a ∧ Erc K C ∧ PySem.W.findIn K (.ref C) f = some none ∧ Ek H1 a C fs ∧ fs.lookup f = some v ∧ Q v H1) : tKat K f te σ H Q := q
theorem words_go {K : PySem.W.Frag} {σ : L2.St} {H1 : Hp} {Q : VK} {vs : List Nat} {a p1 p2 p3 : Addr} {b1 b2 b3 : Bool} {te : TE} {tt : TT} (ha : H1 a = some (.lst [.ref p1, .ref p2, .ref p3])) (h1 : H1 p1 = some (.tup [.str "poly", .bl b1])) (h2 : H1 p2 = some (.tup [.str "number", .bl b2])) (h3 : H1 p3 = some (.tup [.str "misfit", .bl b3]))
    (hw : ∀ x y, wipe (((wipe σ vs).set 5 (some x)).set 6 (some y)) vs = wipe σ vs)
    (htt : ∀ x b H R, R b H → tt (((wipe σ vs).set 5 (some x)).set 6 (some (.bl b))) H R) (hte : ∀ x y H Q, Q x H → te (((wipe σ vs).set 5 (some x)).set 6 (some y)) H Q)
    (k : ∀ D H', Same H1 H' → H' D = some (.lst (wds b1 b2 b3 3)) → Q (.ref D) H') : LcGo (Itl K a) (g2 K 5 6) tt te vs σ H1 Q := by
  refine lcgo_listP (xs := [.ref p1, .ref p2, .ref p3]) (fun D i H' => Same H1 H' ∧ H' D = some (.lst (wds b1 b2 b3 i))) hw (fun D hD => ⟨same_new hD, upd_same⟩) (fun D n H _ h => seqU (h.1 _ _ ha)) (fun D n x H hD ex h => ?_) (fun D H hD h => k D H h.1 h.2)
  obtain ⟨s1, e1⟩ := h
  have stay : ∀ {o : HO}, Same H1 (upd H D o) := fun {o} b v e => by
    rw [upd_ne (ne_of_none e hD)]
    exact s1 _ _ e
  match n, ex with
  | 0, ex =>
    cases ex
    refine ⟨p1, _, _, rfl, tupU (s1 _ _ h1), htt _ _ _ _ ?_⟩
    rcases b1 with _ | _
    · exact ⟨s1, e1⟩
    · exact hte _ _ _ _ ⟨_, e1, wds_lt, stay, upd_same⟩
  | 1, ex =>
    cases ex
    refine ⟨p2, _, _, rfl, tupU (s1 _ _ h2), htt _ _ _ _ ?_⟩
    rcases b2 with _ | _
    · cases b1 <;> exact ⟨s1, e1⟩
    · cases b1 <;> exact hte _ _ _ _ ⟨_, e1, wds_lt, stay, upd_same⟩
  | 2, ex =>
    cases ex
    refine ⟨p3, _, _, rfl, tupU (s1 _ _ h3), htt _ _ _ _ ?_⟩
    rcases b3 with _ | _
    · cases b1 <;> cases b2 <;> exact ⟨s1, e1⟩
    · cases b1 <;> cases b2 <;> exact hte _ _ _ _ ⟨_, e1, wds_lt, stay, upd_same⟩
  | n + 3, ex => cases ex
theorem gives_heard (X : Cx) (T : Tx (cnOf X)) {CP CN CM CT F : Addr} (Er : Errs (cnOf X) CP CN CM CT F) {q : Str} {k : Nat} (g : Addr) (cdg : Value) : GivesG X NH "_law_heard" (defScope s__law_heard) g cdg (defBody s__law_heard) "ask" q k (TTr (R3 CP CN CM)) := by
  intro f c' s H Q tl hA hr act hco h
  have S := sc__law_heard
  refine ⟨_, (pss_cons (ps_set (i := 1) S.nd rfl (by first | exact .inl rfl | exact .inr rfl) pe_non)
      (pss_cons (ps_try_keep (i := 2) (tb := fun W => tDrop (fun σZ HZ Q => σZ[0]? = some (some (.ref f)) ∧ HZ c' = some (LamX.CodeO c' q) ∧ ∃ (E : XK) (Q' : VK), (∀ cls d H', E cls d H' → W cls d σZ H') ∧ (∀ v H', Q' v H' → Q v H') ∧ tl E HZ Q')) (ts := fun a cls d => tAsg (tVar 2) (gName 1)) (Wout := fun _ _ _ _ => False) rfl rfl S.nd rfl rfl ⟨rfl, by decide, Or.inl Er.mg⟩ takes0
      (fun W pn xe tk _ => pss_one (ps_expr (act W pn xe _ _ tk)))
      (fun a oe cls d pn hz hf => pss_one (ps_set (i := 1) S.nd rfl (by first | exact .inl rfl | exact .inr rfl) (pv 2))))
      (pss_cons (ps_if (pt_val (pe_callB call_isNK (by rfl) T.n_isinstance (show bootBuiltins "isinstance" = some (.builtin "isinstance") by decide +kernel) (pa_cons (pv 1) (pa_cons (pe_glob (v := .ref CT) (by rfl) Er.tm.mg rfl) pa_nil)))) (pss_one (ps_ret (pe_tup (pa_cons (show PE _ _ (tKat X.K _ _) from pe_kat (pv 1)) (pa_cons (show PE _ _ (tKat X.K _ _) from pe_kat (pv 1)) pa_nil))))) pss_nil)
      (pss_cons (ps_set (i := 3) S.nd rfl (by first | exact .inl rfl | exact .inr rfl) (pe_lst (pa_cons (pe_tup (pa_cons pe_str (pa_cons (pe_callB call_isNK (by rfl) T.n_isinstance (show bootBuiltins "isinstance" = some (.builtin "isinstance") by decide +kernel) (pa_cons (pv 1) (pa_cons (pe_glob (v := .ref CP) (by rfl) Er.poly.mg rfl) pa_nil))) pa_nil))) (pa_cons (pe_tup (pa_cons pe_str (pa_cons (pe_callB call_isNK (by rfl) T.n_isinstance (show bootBuiltins "isinstance" = some (.builtin "isinstance") by decide +kernel) (pa_cons (pv 1) (pa_cons (pe_glob (v := .ref CN) (by rfl) Er.num.mg rfl) pa_nil))) pa_nil))) (pa_cons (pe_tup (pa_cons pe_str (pa_cons (pe_callB call_isNK (by rfl) T.n_isinstance (show bootBuiltins "isinstance" = some (.builtin "isinstance") by decide +kernel) (pa_cons (pv 1) (pa_cons (pe_glob (v := .ref CM) (by rfl) Er.mis.mg rfl) pa_nil))) pa_nil))) pa_nil)))))
      (pss_cons (ps_setLc (i := 4) (own := [("word", 5), ("is_so", 6)]) (g := g2 X.K 5 6) rfl S.nd rfl rfl (sw_true rfl rfl rfl (by decide +kernel)) (pi_list (pv 3)) (blkOk_by (N := ["ask", "caught", "error", "kinds", "words", "word", "is_so"]) (sc := defScope s__law_heard) (by decide +kernel)) (fun _ _ _ _ _ => pg_tup rfl (pgs_cons (pg_name (i := 5) S.nd rfl (Or.inl rfl)) (pgs_cons (pg_name (i := 6) S.nd rfl (Or.inl rfl)) pgs_nil))) (fun _ _ _ _ _ => pts_one (pt_val (pv 6))) (fun _ _ _ _ _ => (pv 5)))
      (pss_cons (ps_if (pt_cmpR (op_eqU hr.units) (pe_callB call_lenU (by rfl) T.n_len PySem.boot_len (pa_cons (pv 4) pa_nil)) pe_int (nomark _)) (pss_one (ps_ret (pe_tup (pa_cons (pe_ix ix_seq (pv 4) pe_int (fun _ _ => rfl)) (pa_cons (show PE _ _ (tKat X.K _ _) from pe_kat (pv 1)) pa_nil))))) pss_nil)
      (pss_one (ps_ret (pe_ifExp (pt_cmpR op_isNU (pv 1) pe_non (nomark _)) pe_non (pe_tup (pa_cons pe_str (pa_cons pe_non pa_nil)))))))))))), ?_⟩
  walk_at "mfs"
  refine g_seq ?_
  walk_at "mfs"
  refine g_seq ?_
  walk_at "mfs"
  refine ⟨rfl, hco, EsR (R3 CP CN CM) Q, QsH Q, ?_, ?_, h⟩
  · intro cls d0 Hd hE
    obtain ⟨d, p, C, w, rfl, rfl, ed, hC, kk⟩ := hE
    rcases hC with ⟨eC, rfl⟩ | ⟨eC, rfl⟩ | ⟨eC, rfl⟩ <;> rw [eC]
    · refine ⟨true, exm_of Er.poly.cl Er.cl, fun _ a na => ?_, fun z => nomatch z⟩
      have nda : d ≠ a := ne_of_none ed na
      walk_at "mf"
      have ek : Ek (upd Hd a (cxo a (.ref CP) (some d))) a CP [("part", .str p)] := ⟨d, upd_same, by rw [upd_ne nda]; exact ed⟩
      have sB : Same Hd (upd Hd a (cxo a (.ref CP) (some d))) := same_new na
      generalize upd Hd a (cxo a (.ref CP) (some d)) = He at *
      have kT : PySem.W.kitOne X.K (.ref CP) (.ref CT) = some false := (kit_own Er.poly.cl Er.tm.cl).trans (by rw [decide_eq_false Er.n0_3, Bool.false_or, cont_no Er.n3_4])
      refine .inr ⟨a, CP, _, .ref CT, .ref CT, false, rfl, .own _, Er.poly.erc, ek, kT, ?_⟩
      walk_at "mf"
      have k0 : PySem.W.kitOne X.K (.ref CP) (.ref CP) = some true := (kit_own Er.poly.cl Er.poly.cl).trans (by rw [decide_eq_true rfl]; rfl)
      refine .inr ⟨a, CP, _, .ref CP, .ref CP, true, rfl, .own _, Er.poly.erc, ek, k0, ?_⟩
      walk_at "mf"
      refine g_newT (by show 2 ≤ sizeLine; decide) fun p0 H0 n0 s0 e0 => ?_
      have ek := ek.go s0
      have sB := sB.trans s0
      walk_at "mf"
      have k1 : PySem.W.kitOne X.K (.ref CP) (.ref CN) = some false := (kit_own Er.poly.cl Er.num.cl).trans (by rw [decide_eq_false Er.n0_1, Bool.false_or, cont_no Er.n1_4])
      refine .inr ⟨a, CP, _, .ref CN, .ref CN, false, rfl, .own _, Er.poly.erc, ek, k1, ?_⟩
      walk_at "mf"
      refine g_newT (by show 2 ≤ sizeLine; decide) fun p1 H1 n1 s1 e1 => ?_
      have ek := ek.go s1
      have sB := sB.trans s1
      have e0 := s1 _ _ e0
      walk_at "mf"
      have k2 : PySem.W.kitOne X.K (.ref CP) (.ref CM) = some false := (kit_own Er.poly.cl Er.mis.cl).trans (by rw [decide_eq_false Er.n0_2, Bool.false_or, cont_no Er.n2_4])
      refine .inr ⟨a, CP, _, .ref CM, .ref CM, false, rfl, .own _, Er.poly.erc, ek, k2, ?_⟩
      walk_at "mf"
      refine g_newT (by show 2 ≤ sizeLine; decide) fun p2 H2 n2 s2 e2 => ?_
      have ek := ek.go s2
      have sB := sB.trans s2
      have e0 := s2 _ _ e0
      have e1 := s2 _ _ e1
      walk_at "mf"
      refine g_newL (by show 3 ≤ sizeLine; decide) fun p3 H3 n3 s3 e3 => ?_
      walk_at "mf"
      refine ⟨p3, rfl, ⟨_, seqU e3⟩, ?_⟩
      refine words_go e3 (s3 _ _ e0) (s3 _ _ e1) (s3 _ _ e2) (fun x y => rfl) (fun x b H R hR => ?_) (fun x y H Q hQ => ?_) (fun D H4 s4 e4 => ?_)
      · walk_at "mf"
        cases b <;> exact hR
      · walk_at "mf"
        exact hQ
      rw [show wds true false false 3 = [.str "poly"] from rfl] at e4
      have ek4 := (ek.go s3).go s4
      walk_at "mf"
      refine g_len (.inl (seqU e4)) ?_
      walk_at "mf"
      refine g_iteT ?_
      walk_at "mf"
      refine g_ix (.inl (seqU e4)) (v := .str "poly") rfl ?_
      walk_at "mf"
      refine g_kat ?_
      walk_at "mf"
      refine ⟨a, CP, _, .str p, rfl, Er.poly.erc, Er.poly.no _ (List.mem_cons_self ..), ek4, by simp [List.lookup], ?_⟩
      walk_at "mf"
      refine g_newT (by show 2 ≤ sizeLine; decide) fun p5 H5 n5 s5 e5 => ?_
      have sA : Same Hd H4 := (sB.trans s3).trans s4
      exact kk p5 H5 (sA.trans s5) (sA.free n5) e5
    · refine ⟨true, exm_of Er.num.cl Er.cl, fun _ a na => ?_, fun z => nomatch z⟩
      have nda : d ≠ a := ne_of_none ed na
      walk_at "mf"
      have ek : Ek (upd Hd a (cxo a (.ref CN) (some d))) a CN [("part", .str p)] := ⟨d, upd_same, by rw [upd_ne nda]; exact ed⟩
      have sB : Same Hd (upd Hd a (cxo a (.ref CN) (some d))) := same_new na
      generalize upd Hd a (cxo a (.ref CN) (some d)) = He at *
      have kT : PySem.W.kitOne X.K (.ref CN) (.ref CT) = some false := (kit_own Er.num.cl Er.tm.cl).trans (by rw [decide_eq_false Er.n1_3, Bool.false_or, cont_no Er.n3_4])
      refine .inr ⟨a, CN, _, .ref CT, .ref CT, false, rfl, .own _, Er.num.erc, ek, kT, ?_⟩
      walk_at "mf"
      have k0 : PySem.W.kitOne X.K (.ref CN) (.ref CP) = some false := (kit_own Er.num.cl Er.poly.cl).trans (by rw [decide_eq_false (Ne.symm Er.n0_1), Bool.false_or, cont_no Er.n0_4])
      refine .inr ⟨a, CN, _, .ref CP, .ref CP, false, rfl, .own _, Er.num.erc, ek, k0, ?_⟩
      walk_at "mf"
      refine g_newT (by show 2 ≤ sizeLine; decide) fun p0 H0 n0 s0 e0 => ?_
      have ek := ek.go s0
      have sB := sB.trans s0
      walk_at "mf"
      have k1 : PySem.W.kitOne X.K (.ref CN) (.ref CN) = some true := (kit_own Er.num.cl Er.num.cl).trans (by rw [decide_eq_true rfl]; rfl)
      refine .inr ⟨a, CN, _, .ref CN, .ref CN, true, rfl, .own _, Er.num.erc, ek, k1, ?_⟩
      walk_at "mf"
      refine g_newT (by show 2 ≤ sizeLine; decide) fun p1 H1 n1 s1 e1 => ?_
      have ek := ek.go s1
      have sB := sB.trans s1
      have e0 := s1 _ _ e0
      walk_at "mf"
      have k2 : PySem.W.kitOne X.K (.ref CN) (.ref CM) = some false := (kit_own Er.num.cl Er.mis.cl).trans (by rw [decide_eq_false Er.n1_2, Bool.false_or, cont_no Er.n2_4])
      refine .inr ⟨a, CN, _, .ref CM, .ref CM, false, rfl, .own _, Er.num.erc, ek, k2, ?_⟩
      walk_at "mf"
      refine g_newT (by show 2 ≤ sizeLine; decide) fun p2 H2 n2 s2 e2 => ?_
      have ek := ek.go s2
      have sB := sB.trans s2
      have e0 := s2 _ _ e0
      have e1 := s2 _ _ e1
      walk_at "mf"
      refine g_newL (by show 3 ≤ sizeLine; decide) fun p3 H3 n3 s3 e3 => ?_
      walk_at "mf"
      refine ⟨p3, rfl, ⟨_, seqU e3⟩, ?_⟩
      refine words_go e3 (s3 _ _ e0) (s3 _ _ e1) (s3 _ _ e2) (fun x y => rfl) (fun x b H R hR => ?_) (fun x y H Q hQ => ?_) (fun D H4 s4 e4 => ?_)
      · walk_at "mf"
        cases b <;> exact hR
      · walk_at "mf"
        exact hQ
      rw [show wds false true false 3 = [.str "number"] from rfl] at e4
      have ek4 := (ek.go s3).go s4
      walk_at "mf"
      refine g_len (.inl (seqU e4)) ?_
      walk_at "mf"
      refine g_iteT ?_
      walk_at "mf"
      refine g_ix (.inl (seqU e4)) (v := .str "number") rfl ?_
      walk_at "mf"
      refine g_kat ?_
      walk_at "mf"
      refine ⟨a, CN, _, .str p, rfl, Er.num.erc, Er.num.no _ (List.mem_cons_self ..), ek4, by simp [List.lookup], ?_⟩
      walk_at "mf"
      refine g_newT (by show 2 ≤ sizeLine; decide) fun p5 H5 n5 s5 e5 => ?_
      have sA : Same Hd H4 := (sB.trans s3).trans s4
      exact kk p5 H5 (sA.trans s5) (sA.free n5) e5
    · refine ⟨true, exm_of Er.mis.cl Er.cl, fun _ a na => ?_, fun z => nomatch z⟩
      have nda : d ≠ a := ne_of_none ed na
      walk_at "mf"
      have ek : Ek (upd Hd a (cxo a (.ref CM) (some d))) a CM [("part", .str p)] := ⟨d, upd_same, by rw [upd_ne nda]; exact ed⟩
      have sB : Same Hd (upd Hd a (cxo a (.ref CM) (some d))) := same_new na
      generalize upd Hd a (cxo a (.ref CM) (some d)) = He at *
      have kT : PySem.W.kitOne X.K (.ref CM) (.ref CT) = some false := (kit_own Er.mis.cl Er.tm.cl).trans (by rw [decide_eq_false Er.n2_3, Bool.false_or, cont_no Er.n3_4])
      refine .inr ⟨a, CM, _, .ref CT, .ref CT, false, rfl, .own _, Er.mis.erc, ek, kT, ?_⟩
      walk_at "mf"
      have k0 : PySem.W.kitOne X.K (.ref CM) (.ref CP) = some false := (kit_own Er.mis.cl Er.poly.cl).trans (by rw [decide_eq_false (Ne.symm Er.n0_2), Bool.false_or, cont_no Er.n0_4])
      refine .inr ⟨a, CM, _, .ref CP, .ref CP, false, rfl, .own _, Er.mis.erc, ek, k0, ?_⟩
      walk_at "mf"
      refine g_newT (by show 2 ≤ sizeLine; decide) fun p0 H0 n0 s0 e0 => ?_
      have ek := ek.go s0
      have sB := sB.trans s0
      walk_at "mf"
      have k1 : PySem.W.kitOne X.K (.ref CM) (.ref CN) = some false := (kit_own Er.mis.cl Er.num.cl).trans (by rw [decide_eq_false (Ne.symm Er.n1_2), Bool.false_or, cont_no Er.n1_4])
      refine .inr ⟨a, CM, _, .ref CN, .ref CN, false, rfl, .own _, Er.mis.erc, ek, k1, ?_⟩
      walk_at "mf"
      refine g_newT (by show 2 ≤ sizeLine; decide) fun p1 H1 n1 s1 e1 => ?_
      have ek := ek.go s1
      have sB := sB.trans s1
      have e0 := s1 _ _ e0
      walk_at "mf"
      have k2 : PySem.W.kitOne X.K (.ref CM) (.ref CM) = some true := (kit_own Er.mis.cl Er.mis.cl).trans (by rw [decide_eq_true rfl]; rfl)
      refine .inr ⟨a, CM, _, .ref CM, .ref CM, true, rfl, .own _, Er.mis.erc, ek, k2, ?_⟩
      walk_at "mf"
      refine g_newT (by show 2 ≤ sizeLine; decide) fun p2 H2 n2 s2 e2 => ?_
      have ek := ek.go s2
      have sB := sB.trans s2
      have e0 := s2 _ _ e0
      have e1 := s2 _ _ e1
      walk_at "mf"
      refine g_newL (by show 3 ≤ sizeLine; decide) fun p3 H3 n3 s3 e3 => ?_
      walk_at "mf"
      refine ⟨p3, rfl, ⟨_, seqU e3⟩, ?_⟩
      refine words_go e3 (s3 _ _ e0) (s3 _ _ e1) (s3 _ _ e2) (fun x y => rfl) (fun x b H R hR => ?_) (fun x y H Q hQ => ?_) (fun D H4 s4 e4 => ?_)
      · walk_at "mf"
        cases b <;> exact hR
      · walk_at "mf"
        exact hQ
      rw [show wds false false true 3 = [.str "misfit"] from rfl] at e4
      have ek4 := (ek.go s3).go s4
      walk_at "mf"
      refine g_len (.inl (seqU e4)) ?_
      walk_at "mf"
      refine g_iteT ?_
      walk_at "mf"
      refine g_ix (.inl (seqU e4)) (v := .str "misfit") rfl ?_
      walk_at "mf"
      refine g_kat ?_
      walk_at "mf"
      refine ⟨a, CM, _, .str p, rfl, Er.mis.erc, Er.mis.no _ (List.mem_cons_self ..), ek4, by simp [List.lookup], ?_⟩
      walk_at "mf"
      refine g_newT (by show 2 ≤ sizeLine; decide) fun p5 H5 n5 s5 e5 => ?_
      have sA : Same Hd H4 := (sB.trans s3).trans s4
      exact kk p5 H5 (sA.trans s5) (sA.free n5) e5
  · intro v H1 hQ
    walk_at "mf"
    refine g_isNo Er.tm.cl ?_
    walk_at "mf"
    refine g_isNo Er.poly.cl ?_
    walk_at "mf"
    refine g_newT (by show 2 ≤ sizeLine; decide) fun p0 H0 n0 s0 e0 => ?_
    walk_at "mf"
    refine g_isNo Er.num.cl ?_
    walk_at "mf"
    refine g_newT (by show 2 ≤ sizeLine; decide) fun p1 H2 n1 s1 e1 => ?_
    walk_at "mf"
    refine g_isNo Er.mis.cl ?_
    walk_at "mf"
    refine g_newT (by show 2 ≤ sizeLine; decide) fun p2 H3 n2 s2 e2 => ?_
    walk_at "mf"
    refine g_newL (by show 3 ≤ sizeLine; decide) fun p3 H4 n3 s3 e3 => ?_
    walk_at "mf"
    refine ⟨p3, rfl, ⟨_, seqU e3⟩, ?_⟩
    refine words_go e3 (s3 _ _ (s2 _ _ (s1 _ _ e0))) (s3 _ _ (s2 _ _ e1)) (s3 _ _ e2) (fun x y => rfl) (fun x b H R hR => ?_) (fun x y H Q hQ => ?_) (fun D H5 s5 e5 => ?_)
    · walk_at "mf"
      cases b <;> exact hR
    · walk_at "mf"
      exact hQ
    rw [show wds false false false 3 = [] from rfl] at e5
    walk_at "mf"
    refine g_len (.inl (seqU e5)) ?_
    walk_at "mf"
    refine g_iteF ?_
    walk_at "mf"
    exact hQ H5 ((((s0.trans s1).trans s2).trans s3).trans s5)
end Mf
namespace Mf
open PySem PySem.Spec PyProof.Rows L2
local macro_rules | `(tactic| walk_at "mf1") => `(tactic| first
  | ((with_reducible apply g_var); exact rfl)
  | with_reducible first
    | refine g_c ?_ | refine g_op ?_ | refine g_un ?_ | refine g_cb ?_ | refine g_cl ?_ | refine g_clX ?_ | refine g_mkR ?_ | refine g_clk ?_ | refine g_nil ?_ | refine g_cons ?_
    | refine g_tB ?_ | refine g_test ?_ | refine g_bl ?_ | refine g_and ?_ | refine g_or ?_ | refine g_not ?_ | refine g_andV ?_ | refine g_orV ?_ | refine g_notV ?_
    | refine g_if ?_ | refine g_ifS ?_ | refine g_seq ?_ | refine g_next ?_ | refine g_ret ?_ | refine g_drop ?_ | refine g_asg ?_ | refine g_name ?_ | refine g_sub ?_
    | refine g_int ?_ | refine g_intB ?_ | refine g_abs ?_ | refine g_I0 ?_ | refine g_addI ?_ | refine g_U ?_ | refine g_isNn ?_ | refine g_isNi ?_ | refine g_notN ?_ | refine g_notT1 ?_ | refine g_notT2 ?_ | refine g_notT3 ?_ | refine g_notT4 ?_ | refine g_notTb ?_ | refine g_notTi ?_ | refine g_eqI ?_ | refine g_neI ?_ | refine g_neSs ?_ | refine g_neS ?_ | refine g_eqS ?_
    | refine g_iteT ?_ | refine g_iteF ?_ | refine g_iteNT ?_ | refine g_iteNF ?_ | refine g_lst ?_ | refine g_tup ?_ | refine g_seqP ?_ | refine g_sl ?_ | refine g_noPart ?_ | refine g_part ?_ | refine g_yes ?_ | refine g_thenT ?_ | refine g_consG ?_ | refine g_nilG ?_ | refine g_ii ?_ | refine g_par ?_ | refine g_par3 ?_ | refine g_vv ?_ | refine g_vvv ?_ | refine g_reprB ?_ | refine g_lcL ?_ | refine g_lcR ?_
  | ((with_reducible refine g_mod ?_ ?_); (first | omega | decide))
  | ((with_reducible refine g_div ?_ ?_ ?_); (first | omega | decide); (first | assumption | decide))
  | ((with_reducible refine g_mulL ?_ ?_ ?_); (first | omega | decide); (first | omega | decide))
  | ((with_reducible refine g_mulR ?_ ?_ ?_); (first | omega | decide); (first | omega | decide))
  | ((with_reducible refine g_pow ?_ ?_ ?_ ?_); decide; decide; (first | omega | decide))
  | dsimp only)
local macro_rules | `(tactic| walk_at "mf1s") => `(tactic| first
  | ((with_reducible apply g_var); exact rfl)
  | with_reducible first
    | refine g_c ?_ | refine g_op ?_ | refine g_un ?_ | refine g_cb ?_ | refine g_cl ?_ | refine g_clX ?_ | refine g_mkR ?_ | refine g_clk ?_ | refine g_nil ?_ | refine g_cons ?_
    | refine g_tB ?_ | refine g_test ?_ | refine g_bl ?_ | refine g_and ?_ | refine g_or ?_ | refine g_not ?_ | refine g_andV ?_ | refine g_orV ?_ | refine g_notV ?_
    | refine g_if ?_ | refine g_ifS ?_ | refine g_next ?_ | refine g_ret ?_ | refine g_drop ?_ | refine g_asg ?_ | refine g_name ?_ | refine g_sub ?_
    | refine g_int ?_ | refine g_intB ?_ | refine g_abs ?_ | refine g_I0 ?_ | refine g_addI ?_ | refine g_U ?_ | refine g_isNn ?_ | refine g_isNi ?_ | refine g_notN ?_ | refine g_notT1 ?_ | refine g_notT2 ?_ | refine g_notT3 ?_ | refine g_notT4 ?_ | refine g_notTb ?_ | refine g_notTi ?_ | refine g_eqI ?_ | refine g_neI ?_ | refine g_neSs ?_ | refine g_neS ?_ | refine g_eqS ?_
    | refine g_iteT ?_ | refine g_iteF ?_ | refine g_iteNT ?_ | refine g_iteNF ?_ | refine g_lst ?_ | refine g_tup ?_ | refine g_seqP ?_ | refine g_sl ?_ | refine g_noPart ?_ | refine g_part ?_ | refine g_yes ?_ | refine g_thenT ?_ | refine g_consG ?_ | refine g_nilG ?_ | refine g_ii ?_ | refine g_par ?_ | refine g_par3 ?_ | refine g_vv ?_ | refine g_vvv ?_ | refine g_reprB ?_ | refine g_lcL ?_ | refine g_lcR ?_
  | ((with_reducible refine g_mod ?_ ?_); (first | omega | decide))
  | ((with_reducible refine g_div ?_ ?_ ?_); (first | omega | decide); (first | assumption | decide))
  | ((with_reducible refine g_mulL ?_ ?_ ?_); (first | omega | decide); (first | omega | decide))
  | ((with_reducible refine g_mulR ?_ ?_ ?_); (first | omega | decide); (first | omega | decide))
  | ((with_reducible refine g_pow ?_ ?_ ?_ ?_); decide; decide; (first | omega | decide))
  | dsimp only)
local macro_rules | `(tactic| walk_at "mfs") => `(tactic| repeat walk_at "mf1s")
local macro_rules | `(tactic| walk_at "mf") => `(tactic| repeat walk_at "mf1")
local macro_rules | `(tactic| walk_at "ed") => `(tactic| repeat (first
  | with_reducible first
    | exact eds_nil | apply eds_cons | exact ed_int | exact ed_bl | exact ed_non | apply ed_neg
  | ((with_reducible apply ed_str); decide)
  | ((with_reducible apply ed_var); (exact rfl); (first | assumption | exact Dq.int _))
  | ((with_reducible apply ed_dict0); assumption)
  | ((with_reducible apply ed_dict2); assumption)
  | ((with_reducible apply ed_tup); assumption)
  | ((with_reducible apply ed_lst); assumption)
  | (with_reducible apply ed_pow)
  | (with_reducible apply ed_mul)
  | assumption
  | (exact Dq.int _)
  | (exact ⟨by decide, by decide, by decide⟩)
  | (show List.length _ ≤ 1000; simp only [List.length_cons, List.length_nil]; decide)))
theorem ok_poly_of (c : Cn) (T : Tx c) : Cl c 7 "poly_of" s_poly_of ["value"] (sp_polyof c.K) := by
  obtain ⟨P, w, K, mg, base⟩ := c
  have C_read_poly := ok_read_poly _ T
  refine De.cl (N := ["value"]) T.d_poly_of sc_poly_of (fun vs H Q E h => ?_) (fun f0 cdv A outer s H vs Q E hA hr h => ?_)
  · obtain ⟨q, a, xs, ds, n, rfl, _⟩ := h; rfl
  · have S := sc_poly_of
    obtain ⟨q, a, xs, ds, n, rfl, na, ha, hd, ok, hn, ld, k⟩ := h
    refine ⟨_, (pss_one (ps_ret (pe_f C_read_poly hA hr (by decide) pl_read_poly (by rfl) (pa_cons (pv 0) (pa_cons pe_str pa_nil))))), ?_⟩
    walk_at "mf"
    exact ⟨q, a, xs, ds, n, _, rfl, na, ha, hd, ok, hn, ld, k⟩
end Mf
namespace Mf
open PySem PySem.Spec PyProof.Rows L2
local macro_rules | `(tactic| walk_at "mf1") => `(tactic| first
  | ((with_reducible apply g_var); exact rfl)
  | with_reducible first
    | refine g_c ?_ | refine g_op ?_ | refine g_un ?_ | refine g_cb ?_ | refine g_cl ?_ | refine g_clX ?_ | refine g_mkR ?_ | refine g_clk ?_ | refine g_nil ?_ | refine g_cons ?_
    | refine g_tB ?_ | refine g_test ?_ | refine g_bl ?_ | refine g_and ?_ | refine g_or ?_ | refine g_not ?_ | refine g_andV ?_ | refine g_orV ?_ | refine g_notV ?_
    | refine g_if ?_ | refine g_ifS ?_ | refine g_seq ?_ | refine g_next ?_ | refine g_ret ?_ | refine g_drop ?_ | refine g_asg ?_ | refine g_name ?_ | refine g_sub ?_
    | refine g_int ?_ | refine g_intB ?_ | refine g_abs ?_ | refine g_I0 ?_ | refine g_addI ?_ | refine g_U ?_ | refine g_isNn ?_ | refine g_isNi ?_ | refine g_notN ?_ | refine g_notT1 ?_ | refine g_notT2 ?_ | refine g_notT3 ?_ | refine g_notT4 ?_ | refine g_notTb ?_ | refine g_notTi ?_ | refine g_eqI ?_ | refine g_neI ?_ | refine g_neSs ?_ | refine g_neS ?_ | refine g_eqS ?_
    | refine g_iteT ?_ | refine g_iteF ?_ | refine g_iteNT ?_ | refine g_iteNF ?_ | refine g_lst ?_ | refine g_tup ?_ | refine g_seqP ?_ | refine g_sl ?_ | refine g_noPart ?_ | refine g_part ?_ | refine g_yes ?_ | refine g_thenT ?_ | refine g_consG ?_ | refine g_nilG ?_ | refine g_ii ?_ | refine g_par ?_ | refine g_par3 ?_ | refine g_vv ?_ | refine g_vvv ?_ | refine g_reprB ?_ | refine g_lcL ?_ | refine g_lcR ?_
  | ((with_reducible refine g_mod ?_ ?_); (first | omega | decide))
  | ((with_reducible refine g_div ?_ ?_ ?_); (first | omega | decide); (first | assumption | decide))
  | ((with_reducible refine g_mulL ?_ ?_ ?_); (first | omega | decide); (first | omega | decide))
  | ((with_reducible refine g_mulR ?_ ?_ ?_); (first | omega | decide); (first | omega | decide))
  | ((with_reducible refine g_pow ?_ ?_ ?_ ?_); decide; decide; (first | omega | decide))
  | dsimp only)
local macro_rules | `(tactic| walk_at "mf1s") => `(tactic| first
  | ((with_reducible apply g_var); exact rfl)
  | with_reducible first
    | refine g_c ?_ | refine g_op ?_ | refine g_un ?_ | refine g_cb ?_ | refine g_cl ?_ | refine g_clX ?_ | refine g_mkR ?_ | refine g_clk ?_ | refine g_nil ?_ | refine g_cons ?_
    | refine g_tB ?_ | refine g_test ?_ | refine g_bl ?_ | refine g_and ?_ | refine g_or ?_ | refine g_not ?_ | refine g_andV ?_ | refine g_orV ?_ | refine g_notV ?_
    | refine g_if ?_ | refine g_ifS ?_ | refine g_next ?_ | refine g_ret ?_ | refine g_drop ?_ | refine g_asg ?_ | refine g_name ?_ | refine g_sub ?_
    | refine g_int ?_ | refine g_intB ?_ | refine g_abs ?_ | refine g_I0 ?_ | refine g_addI ?_ | refine g_U ?_ | refine g_isNn ?_ | refine g_isNi ?_ | refine g_notN ?_ | refine g_notT1 ?_ | refine g_notT2 ?_ | refine g_notT3 ?_ | refine g_notT4 ?_ | refine g_notTb ?_ | refine g_notTi ?_ | refine g_eqI ?_ | refine g_neI ?_ | refine g_neSs ?_ | refine g_neS ?_ | refine g_eqS ?_
    | refine g_iteT ?_ | refine g_iteF ?_ | refine g_iteNT ?_ | refine g_iteNF ?_ | refine g_lst ?_ | refine g_tup ?_ | refine g_seqP ?_ | refine g_sl ?_ | refine g_noPart ?_ | refine g_part ?_ | refine g_yes ?_ | refine g_thenT ?_ | refine g_consG ?_ | refine g_nilG ?_ | refine g_ii ?_ | refine g_par ?_ | refine g_par3 ?_ | refine g_vv ?_ | refine g_vvv ?_ | refine g_reprB ?_ | refine g_lcL ?_ | refine g_lcR ?_
  | ((with_reducible refine g_mod ?_ ?_); (first | omega | decide))
  | ((with_reducible refine g_div ?_ ?_ ?_); (first | omega | decide); (first | assumption | decide))
  | ((with_reducible refine g_mulL ?_ ?_ ?_); (first | omega | decide); (first | omega | decide))
  | ((with_reducible refine g_mulR ?_ ?_ ?_); (first | omega | decide); (first | omega | decide))
  | ((with_reducible refine g_pow ?_ ?_ ?_ ?_); decide; decide; (first | omega | decide))
  | dsimp only)
local macro_rules | `(tactic| walk_at "mfs") => `(tactic| repeat walk_at "mf1s")
local macro_rules | `(tactic| walk_at "mf") => `(tactic| repeat walk_at "mf1")
local macro_rules | `(tactic| walk_at "ed") => `(tactic| repeat (first
  | with_reducible first
    | exact eds_nil | apply eds_cons | exact ed_int | exact ed_bl | exact ed_non | apply ed_neg
  | ((with_reducible apply ed_str); decide)
  | ((with_reducible apply ed_var); (exact rfl); (first | assumption | exact Dq.int _))
  | ((with_reducible apply ed_dict0); assumption)
  | ((with_reducible apply ed_dict2); assumption)
  | ((with_reducible apply ed_tup); assumption)
  | ((with_reducible apply ed_lst); assumption)
  | (with_reducible apply ed_pow)
  | (with_reducible apply ed_mul)
  | assumption
  | (exact Dq.int _)
  | (exact ⟨by decide, by decide, by decide⟩)
  | (show List.length _ ≤ 1000; simp only [List.length_cons, List.length_nil]; decide)))
abbrev LT (PP1 PP2 : Addr) : List (Addr × Str) := [(PP1, (envOfC "_law_polys_right" (defScope s__law_polys_right) 0 0 .none).qual ++ "<lambda>"), (PP2, (envOfC "_law_zeros_right" (defScope s__law_zeros_right) 0 0 .none).qual ++ "<lambda>")]
theorem LTM1 {PP1 PP2 : Addr} : (PP1, (envOfC "_law_polys_right" (defScope s__law_polys_right) 0 0 .none).qual ++ "<lambda>") ∈ LT PP1 PP2 := List.mem_cons_self ..
theorem LTM2 {PP1 PP2 : Addr} : (PP2, (envOfC "_law_zeros_right" (defScope s__law_zeros_right) 0 0 .none).qual ++ "<lambda>") ∈ LT PP1 PP2 := List.mem_cons_of_mem _ (List.mem_cons_self ..)
theorem LTU1 {PP1 PP2 : Addr} (h : PP1 ≠ PP2) : ∀ p ∈ LT PP1 PP2, p.1 = PP1 → p.2 = (envOfC "_law_polys_right" (defScope s__law_polys_right) 0 0 .none).qual ++ "<lambda>" := by
  intro p hp e
  rcases List.mem_cons.mp hp with rfl | hp
  · rfl
  · rw [List.mem_singleton.mp hp] at e
    exact absurd e.symm h
theorem LTU2 {PP1 PP2 : Addr} (h : PP1 ≠ PP2) : ∀ p ∈ LT PP1 PP2, p.1 = PP2 → p.2 = (envOfC "_law_zeros_right" (defScope s__law_zeros_right) 0 0 .none).qual ++ "<lambda>" := by
  intro p hp e
  rcases List.mem_cons.mp hp with rfl | hp
  · exact absurd e h
  · rw [List.mem_singleton.mp hp]
def LawIn (PP1 PP2 : Addr) (K : PySem.W.Frag) (q : Addr) (t : Int) (H : Hp) (vn vo : V) (dn dd : PyData) : Prop := Qy K q t H ∧ t ≤ 900000 ∧ LamX.Tabs (LT PP1 PP2) H ∧ Dq q K H vn dn ∧ Dq q K H vo dd ∧ isPyD dn = false ∧ (itD dn).length ≤ 900 ∧ isFrD dd = false
def sp_lpr (PP1 PP2 : Addr) (K : PySem.W.Frag) : Sp := fun vs H Q _ => ∃ q vn vo dn dd t, vs = [.ref q, vn, vo] ∧ LawIn PP1 PP2 K q t H vn vo dn dd ∧ ∀ H' t', LamX.Tabs (LT PP1 PP2) H' → Qy K q t' H' → t' ≤ t + 10 → Dq q K H' vn dn → Dq q K H' vo dd → Q (.bl true) H'
def sp_lzr (PP1 PP2 : Addr) (K : PySem.W.Frag) : Sp := fun vs H Q _ => ∃ q vn vo dn dd t, vs = [.ref q, vn, vo] ∧ LawIn PP1 PP2 K q t H vn vo dn dd ∧ ∀ H' t', LamX.Tabs (LT PP1 PP2) H' → Qy K q t' H' → t' ≤ t + 10 → Q (.bl true) H'
theorem ok__law_polys_right (c : Cn) (T : Tx c) {cc PP1 PP2 : Addr} (tc : TC c "_law_polys_right" cc PP1) (hPP : PP1 ≠ PP2) : Cl c 10 "_law_polys_right" s__law_polys_right ["porter", "none", "odd"] (sp_lpr PP1 PP2 c.K) := by
  obtain ⟨CP, CN, CM, CT, F, Er⟩ := T.x_err
  obtain ⟨P, w, K, mg, base⟩ := c
  have C__law_pick := ok__law_pick _ T
  have CX_poly_of := ClX.or (ok_poly_of _ T) (okX_poly_of _ T Er) (Nat.le_refl _) (Nat.le_refl _)
  have CX_poly_parted := okX_poly_parted _ T Er
  have CX_poly_sum := okX_poly_sum _ T Er
  have CX_poly_through := okX_poly_through _ T Er
  have CX_poly_times := okX_poly_times _ T Er
  have CX_rests_of := okX_rests_of _ T Er
  have CX_slope_of := okX_slope_of _ T Er
  have CX_value_at := okX_value_at _ T Er
  refine De.clC (N := ["porter", "none", "odd", "heard", "due", "points", "alike", "at"]) T.d__law_polys_right tc sc__law_polys_right (fun vs H Q E h => ?_) (fun f0 A outer s H vs Q E hA hr h => ?_)
  · obtain ⟨q, vn, vo, dn, dd, t, rfl, _⟩ := h; rfl
  · have S := sc__law_polys_right
    obtain ⟨q, vn, vo, dn, dd, t, rfl, ⟨hq, ht, hT, hn, ho, hbn, hln, hfo⟩, k⟩ := h
    refine ⟨_, (pss_cons (ps_set (i := 3) S.nd rfl (by first | exact .inl rfl | exact .inr rfl) (pe_lst (pa_cons (pe_lamG (k := 7) (d := none) (Ng := NH) (T := LT PP1 PP2) (TT := TTr (R3 CP CN CM)) T.d__law_heard pl__law_heard sc__law_heard rfl (Or.inl (by rfl)) hA hr (by rfl) (fun g cdg => gives_heard _ T Er g cdg) tc.tab rfl LTM1 (LTU1 hPP) (show LamN ["porter", "none", "odd", "heard", "due", "points", "alike", "at"] (defScope s__law_polys_right) _ from lamN_by (by decide +kernel)) rfl (by intro s0 cl0 dV0 doc0 pm0 cv0 ctv0 h0; obtain rfl : dV0 = Value.none := h0; exact ⟨[], .of_eq rfl, fun y hy => nomatch hy⟩) (fun A outer s H E f c' hA2 hr2 => (pe_fX CX_poly_of hA2 hr2 (by decide) pl_poly_of (by rfl) (fun σ => passAt (takes_of rfl rfl rfl rfl) σ) (pa_cons (pv 1) pa_nil)))) (pa_cons (pe_lamG (k := 7) (d := (some 0)) (Ng := NH) (T := LT PP1 PP2) (TT := TTr (R3 CP CN CM)) T.d__law_heard pl__law_heard sc__law_heard rfl (Or.inl (by rfl)) hA hr (by rfl) (fun g cdg => gives_heard _ T Er g cdg) tc.tab rfl LTM1 (LTU1 hPP) (show LamN ["porter", "none", "odd", "heard", "due", "points", "alike", "at"] (defScope s__law_polys_right) _ from lamN_by (by decide +kernel)) ⟨rfl, _, _, rfl⟩ (by intro s0 cl0 dV0 doc0 pm0 cv0 ctv0 h0; obtain ⟨T0, t0, rfl, e0⟩ := h0; exact ⟨[(_, .int 0 t0)], .of_defaults rfl e0 rfl rfl rfl, fun y hy => by cases hy with | head => rfl | tail _ z => cases z⟩) (fun A outer s H E f c' hA2 hr2 => (pe_fX CX_value_at hA2 hr2 (by decide) pl_value_at (by rfl) (fun σ => passAt (takes_of rfl rfl rfl rfl) σ) (pa_cons (pv 1) (pa_cons (pv 2) pa_nil))))) (pa_cons (pe_lamG (k := 7) (d := (some 0)) (Ng := NH) (T := LT PP1 PP2) (TT := TTr (R3 CP CN CM)) T.d__law_heard pl__law_heard sc__law_heard rfl (Or.inl (by rfl)) hA hr (by rfl) (fun g cdg => gives_heard _ T Er g cdg) tc.tab rfl LTM1 (LTU1 hPP) (show LamN ["porter", "none", "odd", "heard", "due", "points", "alike", "at"] (defScope s__law_polys_right) _ from lamN_by (by decide +kernel)) ⟨rfl, _, _, rfl⟩ (by intro s0 cl0 dV0 doc0 pm0 cv0 ctv0 h0; obtain ⟨T0, t0, rfl, e0⟩ := h0; exact ⟨[(_, .int 0 t0)], .of_defaults rfl e0 rfl rfl rfl, fun y hy => by cases hy with | head => rfl | tail _ z => cases z⟩) (fun A outer s H E f c' hA2 hr2 => (pe_fX CX_value_at hA2 hr2 (by decide) pl_value_at (by rfl) (fun σ => passAt (takes_of rfl rfl rfl rfl) σ) (pa_cons (pe_lst (pa_cons pe_int pa_nil)) (pa_cons (pv 2) pa_nil))))) pa_nil)))))
      (pss_cons (ps_set (i := 3) S.nd rfl (by first | exact .inl rfl | exact .inr rfl) (pe_op op_addU (pv 3) (pe_lst (pa_cons (pe_lamG (k := 7) (d := none) (Ng := NH) (T := LT PP1 PP2) (TT := TTr (R3 CP CN CM)) T.d__law_heard pl__law_heard sc__law_heard rfl (Or.inl (by rfl)) hA hr (by rfl) (fun g cdg => gives_heard _ T Er g cdg) tc.tab rfl LTM1 (LTU1 hPP) (show LamN ["porter", "none", "odd", "heard", "due", "points", "alike", "at"] (defScope s__law_polys_right) _ from lamN_by (by decide +kernel)) rfl (by intro s0 cl0 dV0 doc0 pm0 cv0 ctv0 h0; obtain rfl : dV0 = Value.none := h0; exact ⟨[], .of_eq rfl, fun y hy => nomatch hy⟩) (fun A outer s H E f c' hA2 hr2 => (pe_fX CX_poly_sum hA2 hr2 (by decide) pl_poly_sum (by rfl) (fun σ => passAt (takes_of rfl rfl rfl rfl) σ) (pa_cons (pv 1) (pa_cons (pv 1) pa_nil))))) (pa_cons (pe_lamG (k := 7) (d := (some 0)) (Ng := NH) (T := LT PP1 PP2) (TT := TTr (R3 CP CN CM)) T.d__law_heard pl__law_heard sc__law_heard rfl (Or.inl (by rfl)) hA hr (by rfl) (fun g cdg => gives_heard _ T Er g cdg) tc.tab rfl LTM1 (LTU1 hPP) (show LamN ["porter", "none", "odd", "heard", "due", "points", "alike", "at"] (defScope s__law_polys_right) _ from lamN_by (by decide +kernel)) ⟨rfl, _, _, rfl⟩ (by intro s0 cl0 dV0 doc0 pm0 cv0 ctv0 h0; obtain ⟨T0, t0, rfl, e0⟩ := h0; exact ⟨[(_, .int 0 t0)], .of_defaults rfl e0 rfl rfl rfl, fun y hy => by cases hy with | head => rfl | tail _ z => cases z⟩) (fun A outer s H E f c' hA2 hr2 => (pe_fX CX_poly_sum hA2 hr2 (by decide) pl_poly_sum (by rfl) (fun σ => passAt (takes_of rfl rfl rfl rfl) σ) (pa_cons (pe_lst (pa_cons pe_int pa_nil)) (pa_cons (pv 1) pa_nil))))) (pa_cons (pe_lamG (k := 7) (d := (some 0)) (Ng := NH) (T := LT PP1 PP2) (TT := TTr (R3 CP CN CM)) T.d__law_heard pl__law_heard sc__law_heard rfl (Or.inl (by rfl)) hA hr (by rfl) (fun g cdg => gives_heard _ T Er g cdg) tc.tab rfl LTM1 (LTU1 hPP) (show LamN ["porter", "none", "odd", "heard", "due", "points", "alike", "at"] (defScope s__law_polys_right) _ from lamN_by (by decide +kernel)) ⟨rfl, _, _, rfl⟩ (by intro s0 cl0 dV0 doc0 pm0 cv0 ctv0 h0; obtain ⟨T0, t0, rfl, e0⟩ := h0; exact ⟨[(_, .int 0 t0)], .of_defaults rfl e0 rfl rfl rfl, fun y hy => by cases hy with | head => rfl | tail _ z => cases z⟩) (fun A outer s H E f c' hA2 hr2 => (pe_fX CX_poly_times hA2 hr2 (by decide) pl_poly_times (by rfl) (fun σ => passAt (takes_of rfl rfl rfl rfl) σ) (pa_cons (pv 1) (pa_cons (pv 1) pa_nil))))) pa_nil))))))
      (pss_cons (ps_set (i := 3) S.nd rfl (by first | exact .inl rfl | exact .inr rfl) (pe_op op_addU (pv 3) (pe_lst (pa_cons (pe_lamG (k := 7) (d := none) (Ng := NH) (T := LT PP1 PP2) (TT := TTr (R3 CP CN CM)) T.d__law_heard pl__law_heard sc__law_heard rfl (Or.inl (by rfl)) hA hr (by rfl) (fun g cdg => gives_heard _ T Er g cdg) tc.tab rfl LTM1 (LTU1 hPP) (show LamN ["porter", "none", "odd", "heard", "due", "points", "alike", "at"] (defScope s__law_polys_right) _ from lamN_by (by decide +kernel)) rfl (by intro s0 cl0 dV0 doc0 pm0 cv0 ctv0 h0; obtain rfl : dV0 = Value.none := h0; exact ⟨[], .of_eq rfl, fun y hy => nomatch hy⟩) (fun A outer s H E f c' hA2 hr2 => (pe_fX CX_poly_times hA2 hr2 (by decide) pl_poly_times (by rfl) (fun σ => passAt (takes_of rfl rfl rfl rfl) σ) (pa_cons (pe_op op_mulU (pe_lst (pa_cons pe_int pa_nil)) pe_int) (pa_cons (pv 1) pa_nil))))) (pa_cons (pe_lamG (k := 7) (d := (some 0)) (Ng := NH) (T := LT PP1 PP2) (TT := TTr (R3 CP CN CM)) T.d__law_heard pl__law_heard sc__law_heard rfl (Or.inl (by rfl)) hA hr (by rfl) (fun g cdg => gives_heard _ T Er g cdg) tc.tab rfl LTM1 (LTU1 hPP) (show LamN ["porter", "none", "odd", "heard", "due", "points", "alike", "at"] (defScope s__law_polys_right) _ from lamN_by (by decide +kernel)) ⟨rfl, _, _, rfl⟩ (by intro s0 cl0 dV0 doc0 pm0 cv0 ctv0 h0; obtain ⟨T0, t0, rfl, e0⟩ := h0; exact ⟨[(_, .int 0 t0)], .of_defaults rfl e0 rfl rfl rfl, fun y hy => by cases hy with | head => rfl | tail _ z => cases z⟩) (fun A outer s H E f c' hA2 hr2 => (pe_fX CX_poly_parted hA2 hr2 (by decide) pl_poly_parted (by rfl) (fun σ => passAt (takes_of rfl rfl rfl rfl) σ) (pa_cons (pv 1) (pa_cons (pe_lst (pa_cons pe_int pa_nil)) pa_nil))))) (pa_cons (pe_lamG (k := 7) (d := (some 0)) (Ng := NH) (T := LT PP1 PP2) (TT := TTr (R3 CP CN CM)) T.d__law_heard pl__law_heard sc__law_heard rfl (Or.inl (by rfl)) hA hr (by rfl) (fun g cdg => gives_heard _ T Er g cdg) tc.tab rfl LTM1 (LTU1 hPP) (show LamN ["porter", "none", "odd", "heard", "due", "points", "alike", "at"] (defScope s__law_polys_right) _ from lamN_by (by decide +kernel)) ⟨rfl, _, _, rfl⟩ (by intro s0 cl0 dV0 doc0 pm0 cv0 ctv0 h0; obtain ⟨T0, t0, rfl, e0⟩ := h0; exact ⟨[(_, .int 0 t0)], .of_defaults rfl e0 rfl rfl rfl, fun y hy => by cases hy with | head => rfl | tail _ z => cases z⟩) (fun A outer s H E f c' hA2 hr2 => (pe_fX CX_poly_parted hA2 hr2 (by decide) pl_poly_parted (by rfl) (fun σ => passAt (takes_of rfl rfl rfl rfl) σ) (pa_cons (pe_lst (pa_cons pe_int pa_nil)) (pa_cons (pv 1) pa_nil))))) pa_nil))))))
      (pss_cons (ps_set (i := 3) S.nd rfl (by first | exact .inl rfl | exact .inr rfl) (pe_op op_addU (pv 3) (pe_lst (pa_cons (pe_lamG (k := 7) (d := none) (Ng := NH) (T := LT PP1 PP2) (TT := TTr (R3 CP CN CM)) T.d__law_heard pl__law_heard sc__law_heard rfl (Or.inl (by rfl)) hA hr (by rfl) (fun g cdg => gives_heard _ T Er g cdg) tc.tab rfl LTM1 (LTU1 hPP) (show LamN ["porter", "none", "odd", "heard", "due", "points", "alike", "at"] (defScope s__law_polys_right) _ from lamN_by (by decide +kernel)) rfl (by intro s0 cl0 dV0 doc0 pm0 cv0 ctv0 h0; obtain rfl : dV0 = Value.none := h0; exact ⟨[], .of_eq rfl, fun y hy => nomatch hy⟩) (fun A outer s H E f c' hA2 hr2 => (pe_fX CX_poly_parted hA2 hr2 (by decide) pl_poly_parted (by rfl) (fun σ => passAt (takes_of rfl rfl rfl rfl) σ) (pa_cons (pe_lst (pa_cons pe_int pa_nil)) (pa_cons (pe_f C__law_pick hA2 hr2 (by decide) pl__law_pick (by rfl) (pa_cons (pv 0) (pa_cons (show PE _ _ (tLstE _) from pe_lst (pa_cons (pe_lst pa_nil) (pa_cons (pe_lst (pa_cons pe_int pa_nil)) (pa_cons (pe_tup (pa_cons pe_int (pa_cons (pe_tup (pa_cons pe_int (pa_cons pe_int pa_nil))) pa_nil))) pa_nil)))) pa_nil))) pa_nil))))) (pa_cons (pe_lamG (k := 7) (d := (some 0)) (Ng := NH) (T := LT PP1 PP2) (TT := TTr (R3 CP CN CM)) T.d__law_heard pl__law_heard sc__law_heard rfl (Or.inl (by rfl)) hA hr (by rfl) (fun g cdg => gives_heard _ T Er g cdg) tc.tab rfl LTM1 (LTU1 hPP) (show LamN ["porter", "none", "odd", "heard", "due", "points", "alike", "at"] (defScope s__law_polys_right) _ from lamN_by (by decide +kernel)) ⟨rfl, _, _, rfl⟩ (by intro s0 cl0 dV0 doc0 pm0 cv0 ctv0 h0; obtain ⟨T0, t0, rfl, e0⟩ := h0; exact ⟨[(_, .int 0 t0)], .of_defaults rfl e0 rfl rfl rfl, fun y hy => by cases hy with | head => rfl | tail _ z => cases z⟩) (fun A outer s H E f c' hA2 hr2 => (pe_fX CX_slope_of hA2 hr2 (by decide) pl_slope_of (by rfl) (fun σ => passAt (takes_of rfl rfl rfl rfl) σ) (pa_cons (pv 1) pa_nil)))) (pa_cons (pe_lamG (k := 7) (d := (some 0)) (Ng := NH) (T := LT PP1 PP2) (TT := TTr (R3 CP CN CM)) T.d__law_heard pl__law_heard sc__law_heard rfl (Or.inl (by rfl)) hA hr (by rfl) (fun g cdg => gives_heard _ T Er g cdg) tc.tab rfl LTM1 (LTU1 hPP) (show LamN ["porter", "none", "odd", "heard", "due", "points", "alike", "at"] (defScope s__law_polys_right) _ from lamN_by (by decide +kernel)) ⟨rfl, _, _, rfl⟩ (by intro s0 cl0 dV0 doc0 pm0 cv0 ctv0 h0; obtain ⟨T0, t0, rfl, e0⟩ := h0; exact ⟨[(_, .int 0 t0)], .of_defaults rfl e0 rfl rfl rfl, fun y hy => by cases hy with | head => rfl | tail _ z => cases z⟩) (fun A outer s H E f c' hA2 hr2 => (pe_fX CX_rests_of hA2 hr2 (by decide) pl_rests_of (by rfl) (fun σ => passAt (takes_of rfl rfl rfl rfl) σ) (pa_cons (pv 1) pa_nil)))) pa_nil))))))
      (pss_cons (ps_set (i := 4) S.nd rfl (by first | exact .inl rfl | exact .inr rfl) (show PE _ _ (tLstE _) from pe_lst (pa_cons (pe_tup (pa_cons pe_str (pa_cons pe_str pa_nil))) (pa_cons (pe_tup (pa_cons pe_str (pa_cons pe_str pa_nil))) (pa_cons (pe_tup (pa_cons pe_str (pa_cons pe_str pa_nil))) (pa_cons (pe_tup (pa_cons pe_str (pa_cons pe_str pa_nil))) (pa_cons (pe_tup (pa_cons pe_str (pa_cons pe_str pa_nil))) (pa_cons (pe_tup (pa_cons pe_str (pa_cons pe_str pa_nil))) (pa_cons (pe_tup (pa_cons pe_str (pa_cons pe_str pa_nil))) (pa_cons (pe_tup (pa_cons pe_str (pa_cons pe_str pa_nil))) (pa_cons (pe_tup (pa_cons pe_str (pa_cons pe_str pa_nil))) pa_nil)))))))))))
      (pss_cons (ps_if (pt_cmpR (op_neU hr.units) (pv 3) (pe_op op_addU (pv 4) (show PE _ _ (tLstE _) from pe_lst (pa_cons (pe_tup (pa_cons pe_str (pa_cons pe_str pa_nil))) (pa_cons (pe_tup (pa_cons pe_str (pa_cons pe_str pa_nil))) (pa_cons (pe_tup (pa_cons pe_str (pa_cons pe_str pa_nil))) pa_nil))))) (nomark _)) (pss_one (ps_ret pe_bl)) pss_nil)
      (pss_cons (ps_set (i := 5) S.nd rfl (by first | exact .inl rfl | exact .inr rfl) (pe_f C__law_pick hA hr (by decide) pl__law_pick (by rfl) (pa_cons (pv 0) (pa_cons (show PE _ _ (tLstE _) from pe_lst (pa_cons pe_non (pa_cons pe_int (pa_cons (pe_lst (pa_cons pe_int pa_nil)) (pa_cons (pe_lst (pa_cons (pe_tup (pa_cons pe_int pa_nil)) pa_nil)) (pa_cons (pe_lst (pa_cons (pe_tup (pa_cons pe_int (pa_cons pe_int (pa_cons pe_int pa_nil)))) pa_nil)) (pa_cons (pe_lst (pa_cons (pe_tup (pa_cons pe_int (pa_cons pe_non pa_nil))) pa_nil)) (pa_cons (pe_lst (pa_cons (pe_tup (pa_cons pe_bl (pa_cons pe_int pa_nil))) pa_nil)) (pa_cons (pe_lc (own := [("at", 7)]) (g := gName 7) (tt := tYes) rfl S.nd (pi_range1 rfl T.n_range (pa_cons pe_int pa_nil)) (blkOk_by (N := ["porter", "none", "odd", "heard", "due", "points", "alike", "at"]) (sc := defScope s__law_polys_right) (by decide +kernel)) (fun _ _ _ _ _ => pg_name (i := 7) S.nd rfl (Or.inl rfl)) (fun _ _ _ _ _ => pts_nil) (fun _ _ _ _ _ => (pe_tup (pa_cons (pv 7) (pa_cons pe_int pa_nil))))) (pa_cons pe_str (pa_cons (pe_lst (pa_cons (pe_tup (pa_cons (pe_tup (pa_cons pe_int (pa_cons pe_int pa_nil))) (pa_cons pe_int pa_nil))) pa_nil)) (pa_cons pe_dnewK (pa_cons (pe_lst (pa_cons (pe_tup (pa_cons pe_int (pa_cons pe_int pa_nil))) (pa_cons (pe_tup (pa_cons pe_int (pa_cons pe_int pa_nil))) (pa_cons pe_int pa_nil)))) pa_nil))))))))))))) pa_nil))))
      (pss_cons (ps_set (i := 6) S.nd rfl (by first | exact .inl rfl | exact .inr rfl) (pe_f C__law_pick hA hr (by decide) pl__law_pick (by rfl) (pa_cons (pv 0) (pa_cons (show PE _ _ (tLstE _) from pe_lst (pa_cons (pe_lst (pa_cons (pe_tup (pa_cons pe_int (pa_cons pe_int pa_nil))) (pa_cons (pe_tup (pa_cons pe_int (pa_cons pe_int pa_nil))) pa_nil))) (pa_cons (pe_lst (pa_cons (pe_tup (pa_cons (pe_tup (pa_cons pe_int (pa_cons pe_int pa_nil))) (pa_cons pe_int pa_nil))) (pa_cons (pe_tup (pa_cons (pe_lst (pa_cons pe_int (pa_cons pe_int pa_nil))) (pa_cons pe_int pa_nil))) pa_nil))) (pa_cons (pe_lst (pa_cons (pe_tup (pa_cons pe_int (pa_cons pe_int pa_nil))) (pa_cons (pe_tup (pa_cons pe_int (pa_cons pe_int pa_nil))) (pa_cons (pe_tup (pa_cons (pe_tup (pa_cons pe_int (pa_cons pe_int pa_nil))) (pa_cons pe_int pa_nil))) pa_nil)))) pa_nil)))) pa_nil))))
      (pss_cons (ps_set (i := 3) S.nd rfl (by first | exact .inl rfl | exact .inr rfl) (pe_lst (pa_cons (pe_lamG (k := 7) (d := none) (Ng := NH) (T := LT PP1 PP2) (TT := TTr (R3 CP CN CM)) T.d__law_heard pl__law_heard sc__law_heard rfl (Or.inl (by rfl)) hA hr (by rfl) (fun g cdg => gives_heard _ T Er g cdg) tc.tab rfl LTM1 (LTU1 hPP) (show LamN ["porter", "none", "odd", "heard", "due", "points", "alike", "at"] (defScope s__law_polys_right) _ from lamN_by (by decide +kernel)) rfl (by intro s0 cl0 dV0 doc0 pm0 cv0 ctv0 h0; obtain rfl : dV0 = Value.none := h0; exact ⟨[], .of_eq rfl, fun y hy => nomatch hy⟩) (fun A outer s H E f c' hA2 hr2 => (pe_fX CX_poly_through hA2 hr2 (by decide) pl_poly_through (by rfl) (fun σ => passAt (takes_of rfl rfl rfl rfl) σ) (pa_cons (pv 5) pa_nil)))) (pa_cons (pe_lamG (k := 7) (d := (some 0)) (Ng := NH) (T := LT PP1 PP2) (TT := TTr (R3 CP CN CM)) T.d__law_heard pl__law_heard sc__law_heard rfl (Or.inl (by rfl)) hA hr (by rfl) (fun g cdg => gives_heard _ T Er g cdg) tc.tab rfl LTM1 (LTU1 hPP) (show LamN ["porter", "none", "odd", "heard", "due", "points", "alike", "at"] (defScope s__law_polys_right) _ from lamN_by (by decide +kernel)) ⟨rfl, _, _, rfl⟩ (by intro s0 cl0 dV0 doc0 pm0 cv0 ctv0 h0; obtain ⟨T0, t0, rfl, e0⟩ := h0; exact ⟨[(_, .int 0 t0)], .of_defaults rfl e0 rfl rfl rfl, fun y hy => by cases hy with | head => rfl | tail _ z => cases z⟩) (fun A outer s H E f c' hA2 hr2 => (pe_fX CX_poly_through hA2 hr2 (by decide) pl_poly_through (by rfl) (fun σ => passAt (takes_of rfl rfl rfl rfl) σ) (pa_cons (pv 6) pa_nil)))) (pa_cons (pe_lamG (k := 7) (d := (some 0)) (Ng := NH) (T := LT PP1 PP2) (TT := TTr (R3 CP CN CM)) T.d__law_heard pl__law_heard sc__law_heard rfl (Or.inl (by rfl)) hA hr (by rfl) (fun g cdg => gives_heard _ T Er g cdg) tc.tab rfl LTM1 (LTU1 hPP) (show LamN ["porter", "none", "odd", "heard", "due", "points", "alike", "at"] (defScope s__law_polys_right) _ from lamN_by (by decide +kernel)) ⟨rfl, _, _, rfl⟩ (by intro s0 cl0 dV0 doc0 pm0 cv0 ctv0 h0; obtain ⟨T0, t0, rfl, e0⟩ := h0; exact ⟨[(_, .int 0 t0)], .of_defaults rfl e0 rfl rfl rfl, fun y hy => by cases hy with | head => rfl | tail _ z => cases z⟩) (fun A outer s H E f c' hA2 hr2 => (pe_fX CX_poly_of hA2 hr2 (by decide) pl_poly_of (by rfl) (fun σ => passAt (takes_of rfl rfl rfl rfl) σ) (pa_cons (pe_op op_mulU (pe_lst (pa_cons pe_int pa_nil)) pe_int) pa_nil)))) pa_nil)))))
      (pss_one (ps_ret (pe_cmpR (op_eqU hr.units) (pv 3) (show PE _ _ (tLstE _) from pe_lst (pa_cons (pe_tup (pa_cons pe_str (pa_cons pe_str pa_nil))) (pa_cons (pe_tup (pa_cons pe_str (pa_cons pe_str pa_nil))) (pa_cons pe_non pa_nil)))) (nomark _))))))))))))), ?_⟩
    have L : LS q (LT PP1 PP2) K t H [] [] [vn, vo] [dn, dd] := ⟨hq, hT, .cons hn (.cons ho .nil), .nil⟩
    clear hq hT hn ho
    walk_at "mf"
    refine g_lam L.tab (fun Ha1 eN1 Ta1 => g_ttr ?_)
    have L := L.ext eN1 Ta1
    walk_at "mf"
    refine .inr ⟨q, _, rfl, ⟨_, L.o.fst, hbn, hln⟩, Er1.wr (.inl ⟨rfl, rfl⟩) fun pp1 Hb1 sb1 nb1 eb1 => ?_⟩
    have L := (L.same sb1).snoc (dq_wd (w := "poly") (p := "value") L.qy nb1 sb1 eb1 (by decide) (by decide))
    walk_at "mf"
    refine g_lam L.tab (fun Ha2 eN2 Ta2 => g_ttr ?_)
    have L := L.ext eN2 Ta2
    walk_at "mf"
    refine ⟨q, _, _, rfl, .inl ⟨⟨_, L.o.fst, hbn, hln⟩, Er1.wr (.inl ⟨rfl, rfl⟩) fun pp2 Hb2 sb2 nb2 eb2 => ?_⟩⟩
    have L := (L.same sb2).snoc (dq_wd (w := "poly") (p := "poly") L.qy nb2 sb2 eb2 (by decide) (by decide))
    walk_at "mf"
    refine g_lam L.tab (fun Ha3 eN3 Ta3 => g_ttr ?_)
    have L := L.ext eN3 Ta3
    walk_at "mf"
    refine g_newL (by show 1 ≤ sizeLine; decide) fun r4 Hd4 nd4 sd4 ed4 => ?_
    have G4 : GP q K Hd4 (.ref r4) _ := GP.ints (is := [1]) (L.qy.ne nd4) ed4 (by decide) (by decide)
    have L := L.same sd4
    walk_at "mf"
    refine ⟨q, _, _, rfl, .inr ⟨_, G4, ⟨_, L.o.tl.fst, hfo⟩, Er1.wr (.inr (.inl ⟨rfl, rfl⟩)) fun pp3 Hb3 sb3 nb3 eb3 => ?_⟩⟩
    have L := (L.same sb3).snoc (dq_wd (w := "number") (p := "at") L.qy nb3 sb3 eb3 (by decide) (by decide))
    have G4 := G4.kx (Same.kx sb3)
    walk_at "mf"
    clear G4
    refine g_newL (by simp only [List.length_cons, List.length_nil]; decide) fun p5 Hf5 nf5 sf5 ef5 => ?_
    have A : KL q K Hf5 p5 _ _ := ⟨ef5, L.qy.ne nf5, L.a.kx (Same.kx sf5)⟩
    have L := (L.same sf5).none
    walk_at "mf"
    refine g_lam L.tab (fun Ha6 eN6 Ta6 => g_ttr ?_)
    have L := L.ext eN6 Ta6
    have A := A.kx (extN_kx eN6)
    walk_at "mf"
    refine ⟨q, _, _, rfl, .inl ⟨⟨_, L.o.fst, hbn, hln⟩, Er1.wr (.inl ⟨rfl, rfl⟩) fun pp6 Hb6 sb6 nb6 eb6 => ?_⟩⟩
    have L := (L.same sb6).snoc (dq_wd (w := "poly") (p := "one") L.qy nb6 sb6 eb6 (by decide) (by decide))
    have A := A.kx (Same.kx sb6)
    walk_at "mf"
    refine g_lam L.tab (fun Ha7 eN7 Ta7 => g_ttr ?_)
    have L := L.ext eN7 Ta7
    have A := A.kx (extN_kx eN7)
    walk_at "mf"
    refine g_newL (by show 1 ≤ sizeLine; decide) fun r8 Hd8 nd8 sd8 ed8 => ?_
    have G8 : GP q K Hd8 (.ref r8) _ := GP.ints (is := [1]) (L.qy.ne nd8) ed8 (by decide) (by decide)
    have L := L.same sd8
    have A := A.kx (Same.kx sd8)
    walk_at "mf"
    refine ⟨q, _, _, rfl, .inr ⟨_, G8, ⟨_, L.o.fst, hbn, hln⟩, Er1.wr (.inl ⟨rfl, rfl⟩) fun pp7 Hb7 sb7 nb7 eb7 => ?_⟩⟩
    have L := (L.same sb7).snoc (dq_wd (w := "poly") (p := "other") L.qy nb7 sb7 eb7 (by decide) (by decide))
    have A := A.kx (Same.kx sb7)
    have G8 := G8.kx (Same.kx sb7)
    walk_at "mf"
    clear G8
    refine g_lam L.tab (fun Ha9 eN9 Ta9 => g_ttr ?_)
    have L := L.ext eN9 Ta9
    have A := A.kx (extN_kx eN9)
    walk_at "mf"
    refine ⟨q, _, _, rfl, .inl ⟨⟨_, L.o.fst, hbn, hln⟩, Er1.wr (.inl ⟨rfl, rfl⟩) fun pp9 Hb9 sb9 nb9 eb9 => ?_⟩⟩
    have L := (L.same sb9).snoc (dq_wd (w := "poly") (p := "one") L.qy nb9 sb9 eb9 (by decide) (by decide))
    have A := A.kx (Same.kx sb9)
    walk_at "mf"
    refine g_newL (by simp only [List.length_cons, List.length_nil]; decide) fun p10 Hf10 nf10 sf10 ef10 => ?_
    have B : KL q K Hf10 p10 _ _ := ⟨ef10, L.qy.ne nf10, L.a.kx (Same.kx sf10)⟩
    have L := (L.same sf10).none
    have A := A.kx (Same.kx sf10)
    walk_at "mf"
    refine g_cat A.e B.e (by rw [A.a.len, B.a.len]; decide) fun p11 Hf11 nf11 sf11 ef11 => ?_
    have A2 : KL q K Hf11 p11 _ _ := ⟨ef11, L.qy.ne nf11, (A.a.app B.a).kx (Same.kx sf11)⟩
    have L := L.same sf11
    walk_at "mf"
    have A := A2
    clear A2
    refine g_lam L.tab (fun Ha12 eN12 Ta12 => g_ttr ?_)
    have L := L.ext eN12 Ta12
    have A := A.kx (extN_kx eN12)
    walk_at "mf"
    refine g_newL (by show 1 ≤ sizeLine; decide) fun r13 Hd13 nd13 sd13 ed13 => ?_
    have L := L.same sd13
    have A := A.kx (Same.kx sd13)
    walk_at "mf"
    refine g_rep ed13 (by decide) (by decide) (by decide) fun u13 Hu13 nu13 su13 eu13 => ?_
    have G13 : GP q K Hu13 (.ref u13) _ := GP.ints (is := List.replicate 80 1) (L.qy.ne nu13) eu13 (fun z hz => by rw [(List.mem_replicate.mp hz).2]; show (1 : Int).natAbs < 2 ^ 8; decide) (by decide)
    have L := L.same su13
    have A := A.kx (Same.kx su13)
    walk_at "mf"
    refine ⟨q, _, _, rfl, .inr ⟨_, G13, ⟨_, L.o.fst, hbn, hln⟩, Er1.wr (.inl ⟨rfl, rfl⟩) fun pp12 Hb12 sb12 nb12 eb12 => ?_⟩⟩
    have L := (L.same sb12).snoc (dq_wd (w := "poly") (p := "other") L.qy nb12 sb12 eb12 (by decide) (by decide))
    have A := A.kx (Same.kx sb12)
    have G13 := G13.kx (Same.kx sb12)
    walk_at "mf"
    clear G13
    refine g_lam L.tab (fun Ha14 eN14 Ta14 => g_ttr ?_)
    have L := L.ext eN14 Ta14
    have A := A.kx (extN_kx eN14)
    walk_at "mf"
    refine g_newL (by show 1 ≤ sizeLine; decide) fun r15 Hd15 nd15 sd15 ed15 => ?_
    have G15 : GP q K Hd15 (.ref r15) _ := GP.ints (is := [0]) (L.qy.ne nd15) ed15 (by decide) (by decide)
    have L := L.same sd15
    have A := A.kx (Same.kx sd15)
    walk_at "mf"
    refine .inl ⟨q, _, _, rfl, .inl ⟨⟨_, L.o.fst, hbn, hln⟩, Er1.wr (.inl ⟨rfl, rfl⟩) fun pp14 Hb14 sb14 nb14 eb14 => ?_⟩⟩
    have L := (L.same sb14).snoc (dq_wd (w := "poly") (p := "one") L.qy nb14 sb14 eb14 (by decide) (by decide))
    have A := A.kx (Same.kx sb14)
    have G15 := G15.kx (Same.kx sb14)
    walk_at "mf"
    clear G15
    refine g_lam L.tab (fun Ha16 eN16 Ta16 => g_ttr ?_)
    have L := L.ext eN16 Ta16
    have A := A.kx (extN_kx eN16)
    walk_at "mf"
    refine g_newL (by show 1 ≤ sizeLine; decide) fun r17 Hd17 nd17 sd17 ed17 => ?_
    have G17 : GP q K Hd17 (.ref r17) _ := GP.ints (is := [1]) (L.qy.ne nd17) ed17 (by decide) (by decide)
    have L := L.same sd17
    have A := A.kx (Same.kx sd17)
    walk_at "mf"
    refine .inl ⟨q, _, _, rfl, .inr ⟨_, G17, ⟨_, L.o.fst, hbn, hln⟩, Er1.wr (.inl ⟨rfl, rfl⟩) fun pp16 Hb16 sb16 nb16 eb16 => ?_⟩⟩
    have L := (L.same sb16).snoc (dq_wd (w := "poly") (p := "other") L.qy nb16 sb16 eb16 (by decide) (by decide))
    have A := A.kx (Same.kx sb16)
    have G17 := G17.kx (Same.kx sb16)
    walk_at "mf"
    clear G17
    refine g_newL (by simp only [List.length_cons, List.length_nil]; decide) fun p18 Hf18 nf18 sf18 ef18 => ?_
    have B : KL q K Hf18 p18 _ _ := ⟨ef18, L.qy.ne nf18, L.a.kx (Same.kx sf18)⟩
    have L := (L.same sf18).none
    have A := A.kx (Same.kx sf18)
    walk_at "mf"
    refine g_cat A.e B.e (by rw [A.a.len, B.a.len]; decide) fun p19 Hf19 nf19 sf19 ef19 => ?_
    have A2 : KL q K Hf19 p19 _ _ := ⟨ef19, L.qy.ne nf19, (A.a.app B.a).kx (Same.kx sf19)⟩
    have L := L.same sf19
    walk_at "mf"
    have A := A2
    clear A2
    refine g_lam L.tab (fun Ha20 eN20 Ta20 => g_ttr ?_)
    have L := L.ext eN20 Ta20
    have A := A.kx (extN_kx eN20)
    walk_at "mf"
    refine g_newL (by show 1 ≤ sizeLine; decide) fun r21 Hd21 nd21 sd21 ed21 => ?_
    have G21 : GP q K Hd21 (.ref r21) _ := GP.ints (is := [1]) (L.qy.ne nd21) ed21 (by decide) (by decide)
    have L := L.same sd21
    have A := A.kx (Same.kx sd21)
    walk_at "mf"
    obtain ⟨oq22, hoq22⟩ := L.qy.at
    apply g_lstE (q := q) (K := K)
    case h =>
      walk_at "ed"
    case hl => decide +kernel
    intro ws22 pw22 Hw22 sw22 nw22 ew22 aw22 _
    have M22 : KL q K Hw22 pw22 _ _ := ⟨ew22, L.qy.ne nw22, aw22⟩
    have L := L.same sw22
    have A := A.kx (Same.kx sw22)
    have G21 := G21.kx (Same.kx sw22)
    walk_at "mf"
    refine ⟨q, pw22, _, ws22, rfl, L.qy, by omega, M22.n, .inl (seqU M22.e), (fun z => by have z' := M22.a; rw [z] at z'; cases z'), (by rw [M22.a.len]; decide +kernel), fun t22 He22 x22 sx22 hq22 l22 u22 m22 => ?_⟩
    obtain ⟨d22, m22, hx22⟩ := M22.a.mem m22
    have hx22 := hx22.go sx22
    have L := L.sx sx22 hq22
    simp only [List.mem_cons, List.not_mem_nil, or_false] at m22
    have A := A.kx (SameX.kx sx22)
    have G21 := G21.kx (SameX.kx sx22)
    have GZ : GP q K He22 x22 [] := by
      rcases m22 with rfl | rfl | rfl
      · exact GP.of hx22 ⟨rfl, by decide +kernel, by decide⟩ (by decide +kernel)
      · exact GP.of hx22 ⟨rfl, by decide +kernel, by decide⟩ (by decide +kernel)
      · exact GP.of hx22 ⟨rfl, by decide +kernel, by decide⟩ (by decide +kernel)
    clear m22 hx22
    walk_at "mf"
    refine .inr ⟨q, _, _, _, rfl, G21, GZ, Er1.wr (.inr (.inr ⟨rfl, rfl⟩)) fun pp20 Hb20 sb20 nb20 eb20 => ?_⟩
    have L := (L.same sb20).snoc (dq_wd (w := "misfit") (p := "other") L.qy nb20 sb20 eb20 (by decide) (by decide))
    have A := A.kx (Same.kx sb20)
    have G21 := G21.kx (Same.kx sb20)
    walk_at "mf"
    clear G21 GZ
    refine g_lam L.tab (fun Ha23 eN23 Ta23 => g_ttr ?_)
    have L := L.ext eN23 Ta23
    have A := A.kx (extN_kx eN23)
    walk_at "mf"
    refine ⟨q, _, rfl, ⟨_, L.o.fst, hbn, hln⟩, Er1.wr (.inl ⟨rfl, rfl⟩) fun pp23 Hb23 sb23 nb23 eb23 => ?_⟩
    have L := (L.same sb23).snoc (dq_wd (w := "poly") (p := "poly") L.qy nb23 sb23 eb23 (by decide) (by decide))
    have A := A.kx (Same.kx sb23)
    walk_at "mf"
    refine g_lam L.tab (fun Ha24 eN24 Ta24 => g_ttr ?_)
    have L := L.ext eN24 Ta24
    have A := A.kx (extN_kx eN24)
    walk_at "mf"
    refine ⟨q, _, rfl, ⟨_, L.o.fst, hbn, hln⟩, Er1.wr (.inl ⟨rfl, rfl⟩) fun pp24 Hb24 sb24 nb24 eb24 => ?_⟩
    have L := (L.same sb24).snoc (dq_wd (w := "poly") (p := "poly") L.qy nb24 sb24 eb24 (by decide) (by decide))
    have A := A.kx (Same.kx sb24)
    walk_at "mf"
    refine g_newL (by simp only [List.length_cons, List.length_nil]; decide) fun p25 Hf25 nf25 sf25 ef25 => ?_
    have B : KL q K Hf25 p25 _ _ := ⟨ef25, L.qy.ne nf25, L.a.kx (Same.kx sf25)⟩
    have L := (L.same sf25).none
    have A := A.kx (Same.kx sf25)
    walk_at "mf"
    refine g_cat A.e B.e (by rw [A.a.len, B.a.len]; decide) fun p26 Hf26 nf26 sf26 ef26 => ?_
    have A2 : KL q K Hf26 p26 _ _ := ⟨ef26, L.qy.ne nf26, (A.a.app B.a).kx (Same.kx sf26)⟩
    have L := L.same sf26
    walk_at "mf"
    have A := A2
    clear A2
    obtain ⟨oq27, hoq27⟩ := L.qy.at
    apply g_lstE (q := q) (K := K)
    case h => walk_at "ed"
    case hl => decide
    intro ws27 pw27 Hw27 sw27 nw27 ew27 aw27 _
    have D1 : KL q K Hw27 pw27 _ _ := ⟨ew27, L.qy.ne nw27, aw27⟩
    have L := L.same sw27
    have A := A.kx (Same.kx sw27)
    walk_at "mf"
    obtain ⟨oq28, hoq28⟩ := L.qy.at
    apply g_lstE (q := q) (K := K)
    case h => walk_at "ed"
    case hl => decide
    intro ws28 pw28 Hw28 sw28 nw28 ew28 aw28 _
    have D2 : KL q K Hw28 pw28 _ _ := ⟨ew28, L.qy.ne nw28, aw28⟩
    have L := L.same sw28
    have A := A.kx (Same.kx sw28)
    have D1 := D1.kx (Same.kx sw28)
    walk_at "mf"
    refine g_cat D1.e D2.e (by rw [D1.a.len, D2.a.len]; decide) fun p29 Hf29 nf29 sf29 ef29 => ?_
    have D3 : KL q K Hf29 p29 _ _ := ⟨ef29, L.qy.ne nf29, (D1.a.app D2.a).kx (Same.kx sf29)⟩
    have L := L.same sf29
    have A := A.kx (Same.kx sf29)
    walk_at "mf"
    refine g_neW (seqU A.e) (seqU D3.e) A.a D3.a (by decide +kernel) (by decide +kernel) (by decide +kernel) ?_
    walk_at "mf"
    clear A D3
    obtain ⟨oq30, hoq30⟩ := L.qy.at
    apply g_lstE (q := q) (K := K)
    case h =>
      walk_at "ed"
      exact ed_range hoq30 (by decide) (by decide) (fun x => rfl) (fun x => rfl)
      walk_at "ed"
    case hl => decide +kernel
    intro ws30 pw30 Hw30 sw30 nw30 ew30 aw30 _
    have M30 : KL q K Hw30 pw30 _ _ := ⟨ew30, L.qy.ne nw30, aw30⟩
    have L := L.same sw30
    walk_at "mf"
    refine ⟨q, pw30, _, ws30, rfl, L.qy, by omega, M30.n, .inl (seqU M30.e), (fun z => by have z' := M30.a; rw [z] at z'; cases z'), (by rw [M30.a.len]; decide +kernel), fun t30 He30 x30 sx30 hq30 l30 u30 m30 => ?_⟩
    obtain ⟨d30, m30, hx30⟩ := M30.a.mem m30
    have hx30 := hx30.go sx30
    have L := L.sx sx30 hq30
    simp only [List.mem_cons, List.not_mem_nil, or_false] at m30
    have hp : isPtsD d30 = false ∧ (itemsD d30).length ≤ 900 := by
      rcases m30 with rfl | rfl | rfl | rfl | rfl | rfl | rfl | rfl | rfl | rfl | rfl | rfl <;> exact ⟨by decide +kernel, by decide +kernel⟩
    obtain ⟨hbp, hlp⟩ := hp
    clear m30
    have L : LS q (LT PP1 PP2) K _ _ _ _ _ _ := ⟨L.qy, L.tab, .cons hx30 L.o, L.a⟩
    clear hx30
    walk_at "mf"
    obtain ⟨oq31, hoq31⟩ := L.qy.at
    apply g_lstE (q := q) (K := K)
    case h =>
      walk_at "ed"
    case hl => decide +kernel
    intro ws31 pw31 Hw31 sw31 nw31 ew31 aw31 _
    have M31 : KL q K Hw31 pw31 _ _ := ⟨ew31, L.qy.ne nw31, aw31⟩
    have L := L.same sw31
    walk_at "mf"
    refine ⟨q, pw31, _, ws31, rfl, L.qy, by omega, M31.n, .inl (seqU M31.e), (fun z => by have z' := M31.a; rw [z] at z'; cases z'), (by rw [M31.a.len]; decide +kernel), fun t31 He31 x31 sx31 hq31 l31 u31 m31 => ?_⟩
    obtain ⟨d31, m31, hx31⟩ := M31.a.mem m31
    have hx31 := hx31.go sx31
    have L := L.sx sx31 hq31
    simp only [List.mem_cons, List.not_mem_nil, or_false] at m31
    have hla : (itemsD d31).length ≤ 900 ∧ isSeqD d31 = true ∧ (∀ e ∈ itemsD d31, PtOk 8 e) ∧ (itemsD d31).length ≤ 40 ∧ ¬ ((itemsD d31).map fun e => (xy e).1).Nodup := by
      have pt : ∀ {a b : PyData}, isFrD a = true → Bt 8 (upD a) → Bt 8 (dnD a) → isFrD b = true → Bt 8 (upD b) → Bt 8 (dnD b) → PtOk 8 (.tuple [a, b]) := fun h1 h2 h3 h4 h5 h6 => ⟨_, _, .inr rfl, ⟨h1, h2, h3⟩, ⟨h4, h5, h6⟩⟩
      rcases m31 with rfl | rfl | rfl <;> refine ⟨by decide, rfl, fun e he => ?_, by decide, by decide +kernel⟩ <;> simp only [itemsD, List.mem_cons, List.not_mem_nil, or_false] at he
      · rcases he with rfl | rfl <;> exact pt rfl (by decide) (by decide) rfl (by decide) (by decide)
      · rcases he with rfl | rfl <;> exact pt rfl (by decide) (by decide) rfl (by decide) (by decide)
      · rcases he with rfl | rfl | rfl <;> exact pt rfl (by decide) (by decide) rfl (by decide) (by decide)
    clear m31
    have L : LS q (LT PP1 PP2) K _ _ _ _ _ _ := ⟨L.qy, L.tab, .cons hx31 L.o, L.a⟩
    clear hx31
    walk_at "mf"
    refine g_lam L.tab (fun Ha32 eN32 Ta32 => g_ttr ?_)
    have L := L.ext eN32 Ta32
    walk_at "mf"
    refine ⟨q, _, _, rfl, L.o.tl.fst, hlp, .inl ⟨hbp, Er1.wr (.inl ⟨rfl, rfl⟩) fun pp32 Hb32 sb32 nb32 eb32 => ?_⟩⟩
    have L := (L.same sb32).snoc (dq_wd (w := "poly") (p := "points") L.qy nb32 sb32 eb32 (by decide) (by decide))
    walk_at "mf"
    refine g_lam L.tab (fun Ha33 eN33 Ta33 => g_ttr ?_)
    have L := L.ext eN33 Ta33
    walk_at "mf"
    refine ⟨q, _, _, rfl, L.o.fst, hla.1, .inr ⟨8, hla.2.1, hla.2.2.1, by decide, hla.2.2.2.1, hla.2.2.2.2, Er1.wr (.inr (.inr ⟨rfl, rfl⟩)) fun pp33 Hb33 sb33 nb33 eb33 => ?_⟩⟩
    have L := (L.same sb33).snoc (dq_wd (w := "misfit") (p := "points") L.qy nb33 sb33 eb33 (by decide) (by decide))
    walk_at "mf"
    refine g_lam L.tab (fun Ha34 eN34 Ta34 => g_ttr ?_)
    have L := L.ext eN34 Ta34
    walk_at "mf"
    refine g_newL (by show 1 ≤ sizeLine; decide) fun r35 Hd35 nd35 sd35 ed35 => ?_
    have L := L.same sd35
    walk_at "mf"
    refine g_rep ed35 (by decide) (by decide) (by decide) fun u35 Hu35 nu35 su35 eu35 => ?_
    have G35 : GP q K Hu35 (.ref u35) _ := GP.ints (is := List.replicate 80 1) (L.qy.ne nu35) eu35 (fun z hz => by rw [(List.mem_replicate.mp hz).2]; show (1 : Int).natAbs < 2 ^ 8; decide) (by decide)
    have L := L.same su35
    walk_at "mf"
    obtain ⟨ag, xg, dsg, ag1, ag2, ag3, ag4, ag5, ag6, _⟩ := G35
    refine .inl ⟨q, ag, xg, dsg, 8, by rw [ag1], ag2, ag3, ag4, ag5, by decide, ag6, fun p34 Hb34 vs34 sb34 nb34 eb34 tb34 Hc34 sc34 => ?_⟩
    have L := (L.same (sb34.trans sc34)).snoc .non
    walk_at "mf"
    refine g_newL (by simp only [List.length_cons, List.length_nil]; decide) fun p36 Hf36 nf36 sf36 ef36 => ?_
    have A : KL q K Hf36 p36 _ _ := ⟨ef36, L.qy.ne nf36, L.a.kx (Same.kx sf36)⟩
    have L := (L.same sf36).none
    walk_at "mf"
    obtain ⟨oq37, hoq37⟩ := L.qy.at
    apply g_lstE (q := q) (K := K)
    case h => walk_at "ed"
    case hl => decide
    intro ws37 pw37 Hw37 sw37 nw37 ew37 aw37 _
    have D1 : KL q K Hw37 pw37 _ _ := ⟨ew37, L.qy.ne nw37, aw37⟩
    have L := L.same sw37
    have A := A.kx (Same.kx sw37)
    walk_at "mf"
    refine g_eqW (seqU A.e) (seqU D1.e) A.a D1.a (by decide +kernel) (by decide +kernel) (by decide +kernel) ?_
    exact k _ _ L.tab L.qy (by omega) L.o.tl.tl.fst L.o.tl.tl.tl.fst
end Mf
namespace Mf
open PySem PySem.Spec PyProof.Rows L2
local macro_rules | `(tactic| walk_at "mf1") => `(tactic| first
  | ((with_reducible apply g_var); exact rfl)
  | with_reducible first
    | refine g_c ?_ | refine g_op ?_ | refine g_un ?_ | refine g_cb ?_ | refine g_cl ?_ | refine g_clX ?_ | refine g_mkR ?_ | refine g_clk ?_ | refine g_nil ?_ | refine g_cons ?_
    | refine g_tB ?_ | refine g_test ?_ | refine g_bl ?_ | refine g_and ?_ | refine g_or ?_ | refine g_not ?_ | refine g_andV ?_ | refine g_orV ?_ | refine g_notV ?_
    | refine g_if ?_ | refine g_ifS ?_ | refine g_seq ?_ | refine g_next ?_ | refine g_ret ?_ | refine g_drop ?_ | refine g_asg ?_ | refine g_name ?_ | refine g_sub ?_
    | refine g_int ?_ | refine g_intB ?_ | refine g_abs ?_ | refine g_I0 ?_ | refine g_addI ?_ | refine g_U ?_ | refine g_isNn ?_ | refine g_isNi ?_ | refine g_notN ?_ | refine g_notT1 ?_ | refine g_notT2 ?_ | refine g_notT3 ?_ | refine g_notT4 ?_ | refine g_notTb ?_ | refine g_notTi ?_ | refine g_eqI ?_ | refine g_neI ?_ | refine g_neSs ?_ | refine g_neS ?_ | refine g_eqS ?_
    | refine g_iteT ?_ | refine g_iteF ?_ | refine g_iteNT ?_ | refine g_iteNF ?_ | refine g_lst ?_ | refine g_tup ?_ | refine g_seqP ?_ | refine g_sl ?_ | refine g_noPart ?_ | refine g_part ?_ | refine g_yes ?_ | refine g_thenT ?_ | refine g_consG ?_ | refine g_nilG ?_ | refine g_ii ?_ | refine g_par ?_ | refine g_par3 ?_ | refine g_vv ?_ | refine g_vvv ?_ | refine g_reprB ?_ | refine g_lcL ?_ | refine g_lcR ?_
  | ((with_reducible refine g_mod ?_ ?_); (first | omega | decide))
  | ((with_reducible refine g_div ?_ ?_ ?_); (first | omega | decide); (first | assumption | decide))
  | ((with_reducible refine g_mulL ?_ ?_ ?_); (first | omega | decide); (first | omega | decide))
  | ((with_reducible refine g_mulR ?_ ?_ ?_); (first | omega | decide); (first | omega | decide))
  | ((with_reducible refine g_pow ?_ ?_ ?_ ?_); decide; decide; (first | omega | decide))
  | dsimp only)
local macro_rules | `(tactic| walk_at "mf1s") => `(tactic| first
  | ((with_reducible apply g_var); exact rfl)
  | with_reducible first
    | refine g_c ?_ | refine g_op ?_ | refine g_un ?_ | refine g_cb ?_ | refine g_cl ?_ | refine g_clX ?_ | refine g_mkR ?_ | refine g_clk ?_ | refine g_nil ?_ | refine g_cons ?_
    | refine g_tB ?_ | refine g_test ?_ | refine g_bl ?_ | refine g_and ?_ | refine g_or ?_ | refine g_not ?_ | refine g_andV ?_ | refine g_orV ?_ | refine g_notV ?_
    | refine g_if ?_ | refine g_ifS ?_ | refine g_next ?_ | refine g_ret ?_ | refine g_drop ?_ | refine g_asg ?_ | refine g_name ?_ | refine g_sub ?_
    | refine g_int ?_ | refine g_intB ?_ | refine g_abs ?_ | refine g_I0 ?_ | refine g_addI ?_ | refine g_U ?_ | refine g_isNn ?_ | refine g_isNi ?_ | refine g_notN ?_ | refine g_notT1 ?_ | refine g_notT2 ?_ | refine g_notT3 ?_ | refine g_notT4 ?_ | refine g_notTb ?_ | refine g_notTi ?_ | refine g_eqI ?_ | refine g_neI ?_ | refine g_neSs ?_ | refine g_neS ?_ | refine g_eqS ?_
    | refine g_iteT ?_ | refine g_iteF ?_ | refine g_iteNT ?_ | refine g_iteNF ?_ | refine g_lst ?_ | refine g_tup ?_ | refine g_seqP ?_ | refine g_sl ?_ | refine g_noPart ?_ | refine g_part ?_ | refine g_yes ?_ | refine g_thenT ?_ | refine g_consG ?_ | refine g_nilG ?_ | refine g_ii ?_ | refine g_par ?_ | refine g_par3 ?_ | refine g_vv ?_ | refine g_vvv ?_ | refine g_reprB ?_ | refine g_lcL ?_ | refine g_lcR ?_
  | ((with_reducible refine g_mod ?_ ?_); (first | omega | decide))
  | ((with_reducible refine g_div ?_ ?_ ?_); (first | omega | decide); (first | assumption | decide))
  | ((with_reducible refine g_mulL ?_ ?_ ?_); (first | omega | decide); (first | omega | decide))
  | ((with_reducible refine g_mulR ?_ ?_ ?_); (first | omega | decide); (first | omega | decide))
  | ((with_reducible refine g_pow ?_ ?_ ?_ ?_); decide; decide; (first | omega | decide))
  | dsimp only)
local macro_rules | `(tactic| walk_at "mfs") => `(tactic| repeat walk_at "mf1s")
local macro_rules | `(tactic| walk_at "mf") => `(tactic| repeat walk_at "mf1")
local macro_rules | `(tactic| walk_at "ed") => `(tactic| repeat (first
  | with_reducible first
    | exact eds_nil | apply eds_cons | exact ed_int | exact ed_bl | exact ed_non | apply ed_neg
  | ((with_reducible apply ed_str); decide)
  | ((with_reducible apply ed_var); (exact rfl); (first | assumption | exact Dq.int _))
  | ((with_reducible apply ed_dict0); assumption)
  | ((with_reducible apply ed_dict2); assumption)
  | ((with_reducible apply ed_tup); assumption)
  | ((with_reducible apply ed_lst); assumption)
  | (with_reducible apply ed_pow)
  | (with_reducible apply ed_mul)
  | assumption
  | (exact Dq.int _)
  | (exact ⟨by decide, by decide, by decide⟩)
  | (show List.length _ ≤ 1000; simp only [List.length_cons, List.length_nil]; decide)))
theorem g_bmZ {K : PySem.W.Frag} {T : String} {r : V → List V → Hp → VK → Prop} {to : TE} {t : TA} {σ : L2.St} {H : Hp} {Q : VK} (q : to σ H fun x H1 => tyV K T x H1 ∧ t σ H1 fun xs H2 => r x xs H2 Q) : tBM K T r to t σ H Q := q
theorem bw_of {q : Addr} {K : PySem.W.Frag} {H : Hp} {v : V} {d : PyData} (h : Dq q K H v d) (o : isFrD d = false ∨ (isFrD d = true ∧ Bt 100 (upD d) ∧ Bt 100 (dnD d) ∧ (valQ d).num ≤ 0)) : BW q K H v := by
  rcases o with o | ⟨o1, o2, o3, o4⟩
  · exact .inl ⟨d, h, o⟩
  · exact .inr ⟨_, Fr.of h o1 o2 o3, o4⟩
theorem ok__law_zeros_right (c : Cn) (T : Tx c) {cc PP1 PP2 : Addr} (tc : TC c "_law_zeros_right" cc PP2) (hPP : PP1 ≠ PP2) : Cl c 10 "_law_zeros_right" s__law_zeros_right ["porter", "none", "odd"] (sp_lzr PP1 PP2 c.K) := by
  obtain ⟨CP, CN, CM, CT, F, Er⟩ := T.x_err
  obtain ⟨P, w, K, mg, base⟩ := c
  have C__law_pick := ok__law_pick _ T
  have CX_first_zero := okX_first_zero _ T Er
  have CX_is_above := okX_is_above _ T Er
  have CX_zeros_in := okX_zeros_in _ T Er
  refine De.clC (N := ["porter", "none", "odd", "wide", "low", "high", "zero", "heard", "due"]) T.d__law_zeros_right tc sc__law_zeros_right (fun vs H Q E h => ?_) (fun f0 A outer s H vs Q E hA hr h => ?_)
  · obtain ⟨q, vn, vo, dn, dd, t, rfl, _⟩ := h; rfl
  · have S := sc__law_zeros_right
    obtain ⟨q, vn, vo, dn, dd, t, rfl, ⟨hq, ht, hT, hn, ho, hbn, hln, hfo⟩, k⟩ := h
    refine ⟨_, (pss_cons (ps_set (i := 3) S.nd rfl (by first | exact .inl rfl | exact .inr rfl) (pe_f C__law_pick hA hr (by decide) pl__law_pick (by rfl) (pa_cons (pv 0) (pa_cons (show PE _ _ (tLstE _) from pe_lst (pa_cons pe_int (pa_cons (pe_un un_neg pe_int) (pa_cons (pe_tup (pa_cons pe_int (pa_cons pe_int pa_nil))) (pa_cons pe_non (pa_cons pe_bl (pa_cons pe_str (pa_cons (pe_tup (pa_cons pe_int (pa_cons pe_int pa_nil))) pa_nil)))))))) pa_nil))))
      (pss_cons (ps_asg (pe_f C__law_pick hA hr (by decide) pl__law_pick (by rfl) (pa_cons (pv 0) (pa_cons (show PE _ _ (tLstE _) from pe_lst (pa_cons (pe_tup (pa_cons pe_int (pa_cons pe_int pa_nil))) (pa_cons (pe_tup (pa_cons pe_int (pa_cons (pe_tup (pa_cons pe_int (pa_cons pe_int pa_nil))) pa_nil))) (pa_cons (pe_tup (pa_cons (pe_tup (pa_cons pe_int (pa_cons pe_int pa_nil))) (pa_cons (pe_tup (pa_cons pe_int (pa_cons pe_int pa_nil))) pa_nil))) (pa_cons (pe_tup (pa_cons pe_int (pa_cons (pe_un un_neg pe_int) pa_nil))) pa_nil))))) pa_nil))) (pg_tup rfl (pgs_cons (pg_name (i := 4) S.nd rfl (by first | exact .inl rfl | exact .inr rfl)) (pgs_cons (pg_name (i := 5) S.nd rfl (by first | exact .inl rfl | exact .inr rfl)) pgs_nil))))
      (pss_cons (ps_set (i := 6) S.nd rfl (by first | exact .inl rfl | exact .inr rfl) (pe_f C__law_pick hA hr (by decide) pl__law_pick (by rfl) (pa_cons (pv 0) (pa_cons (show PE _ _ (tLstE _) from pe_lst (pa_cons (pe_lst pa_nil) (pa_cons (pe_lst (pa_cons pe_int pa_nil)) (pa_cons (pe_tup (pa_cons pe_int (pa_cons pe_int pa_nil))) pa_nil)))) pa_nil))))
      (pss_cons (ps_set (i := 7) S.nd rfl (by first | exact .inl rfl | exact .inr rfl) (pe_lst (pa_cons (pe_lamG (k := 7) (d := none) (Ng := NH) (T := LT PP1 PP2) (TT := TTr (R3 CP CN CM)) T.d__law_heard pl__law_heard sc__law_heard rfl (Or.inl (by rfl)) hA hr (by rfl) (fun g cdg => gives_heard _ T Er g cdg) tc.tab rfl LTM2 (LTU2 hPP) (show LamN ["porter", "none", "odd", "wide", "low", "high", "zero", "heard", "due"] (defScope s__law_zeros_right) _ from lamN_by (by decide +kernel)) rfl (by intro s0 cl0 dV0 doc0 pm0 cv0 ctv0 h0; obtain rfl : dV0 = Value.none := h0; exact ⟨[], .of_eq rfl, fun y hy => nomatch hy⟩) (fun A outer s H E f c' hA2 hr2 => (pe_fX CX_zeros_in hA2 hr2 (by decide) pl_zeros_in (by rfl) (fun σ => passAt (takes_of rfl rfl rfl rfl) σ) (pa_cons (pv 1) (pa_cons (pv 2) (pa_cons (pv 2) pa_nil)))))) (pa_cons (pe_lamG (k := 7) (d := (some 0)) (Ng := NH) (T := LT PP1 PP2) (TT := TTr (R3 CP CN CM)) T.d__law_heard pl__law_heard sc__law_heard rfl (Or.inl (by rfl)) hA hr (by rfl) (fun g cdg => gives_heard _ T Er g cdg) tc.tab rfl LTM2 (LTU2 hPP) (show LamN ["porter", "none", "odd", "wide", "low", "high", "zero", "heard", "due"] (defScope s__law_zeros_right) _ from lamN_by (by decide +kernel)) ⟨rfl, _, _, rfl⟩ (by intro s0 cl0 dV0 doc0 pm0 cv0 ctv0 h0; obtain ⟨T0, t0, rfl, e0⟩ := h0; exact ⟨[(_, .int 0 t0)], .of_defaults rfl e0 rfl rfl rfl, fun y hy => by cases hy with | head => rfl | tail _ z => cases z⟩) (fun A outer s H E f c' hA2 hr2 => (pe_fX CX_zeros_in hA2 hr2 (by decide) pl_zeros_in (by rfl) (fun σ => passAt (takes_of rfl rfl rfl rfl) σ) (pa_cons (pe_lst (pa_cons pe_int pa_nil)) (pa_cons (pv 2) (pa_cons (pv 2) pa_nil)))))) (pa_cons (pe_lamG (k := 7) (d := (some 0)) (Ng := NH) (T := LT PP1 PP2) (TT := TTr (R3 CP CN CM)) T.d__law_heard pl__law_heard sc__law_heard rfl (Or.inl (by rfl)) hA hr (by rfl) (fun g cdg => gives_heard _ T Er g cdg) tc.tab rfl LTM2 (LTU2 hPP) (show LamN ["porter", "none", "odd", "wide", "low", "high", "zero", "heard", "due"] (defScope s__law_zeros_right) _ from lamN_by (by decide +kernel)) ⟨rfl, _, _, rfl⟩ (by intro s0 cl0 dV0 doc0 pm0 cv0 ctv0 h0; obtain ⟨T0, t0, rfl, e0⟩ := h0; exact ⟨[(_, .int 0 t0)], .of_defaults rfl e0 rfl rfl rfl, fun y hy => by cases hy with | head => rfl | tail _ z => cases z⟩) (fun A outer s H E f c' hA2 hr2 => (pe_fX CX_zeros_in hA2 hr2 (by decide) pl_zeros_in (by rfl) (fun σ => passAt (takes_of rfl rfl rfl rfl) σ) (pa_cons (pe_lst (pa_cons pe_int pa_nil)) (pa_cons pe_int (pa_cons (pv 2) pa_nil)))))) pa_nil)))))
      (pss_cons (ps_set (i := 7) S.nd rfl (by first | exact .inl rfl | exact .inr rfl) (pe_op op_addU (pv 7) (pe_lst (pa_cons (pe_lamG (k := 7) (d := none) (Ng := NH) (T := LT PP1 PP2) (TT := TTr (R3 CP CN CM)) T.d__law_heard pl__law_heard sc__law_heard rfl (Or.inl (by rfl)) hA hr (by rfl) (fun g cdg => gives_heard _ T Er g cdg) tc.tab rfl LTM2 (LTU2 hPP) (show LamN ["porter", "none", "odd", "wide", "low", "high", "zero", "heard", "due"] (defScope s__law_zeros_right) _ from lamN_by (by decide +kernel)) rfl (by intro s0 cl0 dV0 doc0 pm0 cv0 ctv0 h0; obtain rfl : dV0 = Value.none := h0; exact ⟨[], .of_eq rfl, fun y hy => nomatch hy⟩) (fun A outer s H E f c' hA2 hr2 => (pe_fX CX_zeros_in hA2 hr2 (by decide) pl_zeros_in (by rfl) (fun σ => passAt (takes_of rfl rfl rfl rfl) σ) (pa_cons (pv 6) (pa_cons (pv 4) (pa_cons (pv 5) pa_nil)))))) (pa_cons (pe_lamG (k := 7) (d := (some 0)) (Ng := NH) (T := LT PP1 PP2) (TT := TTr (R3 CP CN CM)) T.d__law_heard pl__law_heard sc__law_heard rfl (Or.inl (by rfl)) hA hr (by rfl) (fun g cdg => gives_heard _ T Er g cdg) tc.tab rfl LTM2 (LTU2 hPP) (show LamN ["porter", "none", "odd", "wide", "low", "high", "zero", "heard", "due"] (defScope s__law_zeros_right) _ from lamN_by (by decide +kernel)) ⟨rfl, _, _, rfl⟩ (by intro s0 cl0 dV0 doc0 pm0 cv0 ctv0 h0; obtain ⟨T0, t0, rfl, e0⟩ := h0; exact ⟨[(_, .int 0 t0)], .of_defaults rfl e0 rfl rfl rfl, fun y hy => by cases hy with | head => rfl | tail _ z => cases z⟩) (fun A outer s H E f c' hA2 hr2 => (pe_fX CX_zeros_in hA2 hr2 (by decide) pl_zeros_in (by rfl) (fun σ => passAt (takes_of rfl rfl rfl rfl) σ) (pa_cons (pe_lst (pa_cons pe_int (pa_cons pe_int pa_nil))) (pa_cons (pv 4) (pa_cons (pv 5) pa_nil)))))) (pa_cons (pe_lamG (k := 7) (d := (some 0)) (Ng := NH) (T := LT PP1 PP2) (TT := TTr (R3 CP CN CM)) T.d__law_heard pl__law_heard sc__law_heard rfl (Or.inl (by rfl)) hA hr (by rfl) (fun g cdg => gives_heard _ T Er g cdg) tc.tab rfl LTM2 (LTU2 hPP) (show LamN ["porter", "none", "odd", "wide", "low", "high", "zero", "heard", "due"] (defScope s__law_zeros_right) _ from lamN_by (by decide +kernel)) ⟨rfl, _, _, rfl⟩ (by intro s0 cl0 dV0 doc0 pm0 cv0 ctv0 h0; obtain ⟨T0, t0, rfl, e0⟩ := h0; exact ⟨[(_, .int 0 t0)], .of_defaults rfl e0 rfl rfl rfl, fun y hy => by cases hy with | head => rfl | tail _ z => cases z⟩) (fun A outer s H E f c' hA2 hr2 => (pe_fX CX_is_above hA2 hr2 (by decide) pl_is_above (by rfl) (fun σ => passAt (takes_of rfl rfl rfl rfl) σ) (pa_cons (pv 1) (pa_cons (pv 2) (pa_cons pe_int pa_nil)))))) pa_nil))))))
      (pss_cons (ps_set (i := 7) S.nd rfl (by first | exact .inl rfl | exact .inr rfl) (pe_op op_addU (pv 7) (pe_lst (pa_cons (pe_lamG (k := 7) (d := none) (Ng := NH) (T := LT PP1 PP2) (TT := TTr (R3 CP CN CM)) T.d__law_heard pl__law_heard sc__law_heard rfl (Or.inl (by rfl)) hA hr (by rfl) (fun g cdg => gives_heard _ T Er g cdg) tc.tab rfl LTM2 (LTU2 hPP) (show LamN ["porter", "none", "odd", "wide", "low", "high", "zero", "heard", "due"] (defScope s__law_zeros_right) _ from lamN_by (by decide +kernel)) rfl (by intro s0 cl0 dV0 doc0 pm0 cv0 ctv0 h0; obtain rfl : dV0 = Value.none := h0; exact ⟨[], .of_eq rfl, fun y hy => nomatch hy⟩) (fun A outer s H E f c' hA2 hr2 => (pe_fX CX_is_above hA2 hr2 (by decide) pl_is_above (by rfl) (fun σ => passAt (takes_of rfl rfl rfl rfl) σ) (pa_cons (pe_lst (pa_cons pe_int pa_nil)) (pa_cons (pv 2) (pa_cons (pv 2) pa_nil)))))) (pa_cons (pe_lamG (k := 7) (d := (some 0)) (Ng := NH) (T := LT PP1 PP2) (TT := TTr (R3 CP CN CM)) T.d__law_heard pl__law_heard sc__law_heard rfl (Or.inl (by rfl)) hA hr (by rfl) (fun g cdg => gives_heard _ T Er g cdg) tc.tab rfl LTM2 (LTU2 hPP) (show LamN ["porter", "none", "odd", "wide", "low", "high", "zero", "heard", "due"] (defScope s__law_zeros_right) _ from lamN_by (by decide +kernel)) ⟨rfl, _, _, rfl⟩ (by intro s0 cl0 dV0 doc0 pm0 cv0 ctv0 h0; obtain ⟨T0, t0, rfl, e0⟩ := h0; exact ⟨[(_, .int 0 t0)], .of_defaults rfl e0 rfl rfl rfl, fun y hy => by cases hy with | head => rfl | tail _ z => cases z⟩) (fun A outer s H E f c' hA2 hr2 => (pe_fX CX_is_above hA2 hr2 (by decide) pl_is_above (by rfl) (fun σ => passAt (takes_of rfl rfl rfl rfl) σ) (pa_cons (pe_lst (pa_cons pe_int pa_nil)) (pa_cons pe_int (pa_cons (pv 2) pa_nil)))))) (pa_cons (pe_lamG (k := 7) (d := (some 0)) (Ng := NH) (T := LT PP1 PP2) (TT := TTr (R3 CP CN CM)) T.d__law_heard pl__law_heard sc__law_heard rfl (Or.inl (by rfl)) hA hr (by rfl) (fun g cdg => gives_heard _ T Er g cdg) tc.tab rfl LTM2 (LTU2 hPP) (show LamN ["porter", "none", "odd", "wide", "low", "high", "zero", "heard", "due"] (defScope s__law_zeros_right) _ from lamN_by (by decide +kernel)) ⟨rfl, _, _, rfl⟩ (by intro s0 cl0 dV0 doc0 pm0 cv0 ctv0 h0; obtain ⟨T0, t0, rfl, e0⟩ := h0; exact ⟨[(_, .int 0 t0)], .of_defaults rfl e0 rfl rfl rfl, fun y hy => by cases hy with | head => rfl | tail _ z => cases z⟩) (fun A outer s H E f c' hA2 hr2 => (pe_fX CX_is_above hA2 hr2 (by decide) pl_is_above (by rfl) (fun σ => passAt (takes_of rfl rfl rfl rfl) σ) (pa_cons (pv 6) (pa_cons (pv 4) (pa_cons (pv 5) pa_nil)))))) pa_nil))))))
      (pss_cons (ps_set (i := 8) S.nd rfl (by first | exact .inl rfl | exact .inr rfl) (show PE _ _ (tLstE _) from pe_lst (pa_cons (pe_tup (pa_cons pe_str (pa_cons pe_str pa_nil))) (pa_cons (pe_tup (pa_cons pe_str (pa_cons pe_str pa_nil))) (pa_cons (pe_tup (pa_cons pe_str (pa_cons pe_str pa_nil))) (pa_cons (pe_tup (pa_cons pe_str (pa_cons pe_str pa_nil))) (pa_cons (pe_tup (pa_cons pe_str (pa_cons pe_str pa_nil))) (pa_cons (pe_tup (pa_cons pe_str (pa_cons pe_str pa_nil))) (pa_cons (pe_tup (pa_cons pe_str (pa_cons pe_str pa_nil))) (pa_cons (pe_tup (pa_cons pe_str (pa_cons pe_str pa_nil))) (pa_cons (pe_tup (pa_cons pe_str (pa_cons pe_str pa_nil))) pa_nil)))))))))))
      (pss_cons (ps_if (pt_cmpR (op_neU hr.units) (pv 7) (pv 8) (nomark _)) (pss_one (ps_ret pe_bl)) pss_nil)
      (pss_cons (ps_set (i := 7) S.nd rfl (by first | exact .inl rfl | exact .inr rfl) (pe_lst (pa_cons (pe_lamG (k := 7) (d := none) (Ng := NH) (T := LT PP1 PP2) (TT := TTr (R3 CP CN CM)) T.d__law_heard pl__law_heard sc__law_heard rfl (Or.inl (by rfl)) hA hr (by rfl) (fun g cdg => gives_heard _ T Er g cdg) tc.tab rfl LTM2 (LTU2 hPP) (show LamN ["porter", "none", "odd", "wide", "low", "high", "zero", "heard", "due"] (defScope s__law_zeros_right) _ from lamN_by (by decide +kernel)) rfl (by intro s0 cl0 dV0 doc0 pm0 cv0 ctv0 h0; obtain rfl : dV0 = Value.none := h0; exact ⟨[], .of_eq rfl, fun y hy => nomatch hy⟩) (fun A outer s H E f c' hA2 hr2 => (pe_fX CX_first_zero hA2 hr2 (by decide) pl_first_zero (by rfl) (fun σ => passAt (takes_of rfl rfl rfl rfl) σ) (pa_cons (pv 1) (pa_cons (pv 2) (pa_cons (pv 2) (pa_cons (pv 3) pa_nil))))))) (pa_cons (pe_lamG (k := 7) (d := (some 0)) (Ng := NH) (T := LT PP1 PP2) (TT := TTr (R3 CP CN CM)) T.d__law_heard pl__law_heard sc__law_heard rfl (Or.inl (by rfl)) hA hr (by rfl) (fun g cdg => gives_heard _ T Er g cdg) tc.tab rfl LTM2 (LTU2 hPP) (show LamN ["porter", "none", "odd", "wide", "low", "high", "zero", "heard", "due"] (defScope s__law_zeros_right) _ from lamN_by (by decide +kernel)) ⟨rfl, _, _, rfl⟩ (by intro s0 cl0 dV0 doc0 pm0 cv0 ctv0 h0; obtain ⟨T0, t0, rfl, e0⟩ := h0; exact ⟨[(_, .int 0 t0)], .of_defaults rfl e0 rfl rfl rfl, fun y hy => by cases hy with | head => rfl | tail _ z => cases z⟩) (fun A outer s H E f c' hA2 hr2 => (pe_fX CX_first_zero hA2 hr2 (by decide) pl_first_zero (by rfl) (fun σ => passAt (takes_of rfl rfl rfl rfl) σ) (pa_cons (pe_lst (pa_cons pe_int pa_nil)) (pa_cons (pv 2) (pa_cons (pv 2) (pa_cons (pv 3) pa_nil))))))) (pa_cons (pe_lamG (k := 7) (d := (some 0)) (Ng := NH) (T := LT PP1 PP2) (TT := TTr (R3 CP CN CM)) T.d__law_heard pl__law_heard sc__law_heard rfl (Or.inl (by rfl)) hA hr (by rfl) (fun g cdg => gives_heard _ T Er g cdg) tc.tab rfl LTM2 (LTU2 hPP) (show LamN ["porter", "none", "odd", "wide", "low", "high", "zero", "heard", "due"] (defScope s__law_zeros_right) _ from lamN_by (by decide +kernel)) ⟨rfl, _, _, rfl⟩ (by intro s0 cl0 dV0 doc0 pm0 cv0 ctv0 h0; obtain ⟨T0, t0, rfl, e0⟩ := h0; exact ⟨[(_, .int 0 t0)], .of_defaults rfl e0 rfl rfl rfl, fun y hy => by cases hy with | head => rfl | tail _ z => cases z⟩) (fun A outer s H E f c' hA2 hr2 => (pe_fX CX_first_zero hA2 hr2 (by decide) pl_first_zero (by rfl) (fun σ => passAt (takes_of rfl rfl rfl rfl) σ) (pa_cons (pe_lst (pa_cons pe_int pa_nil)) (pa_cons pe_int (pa_cons (pv 2) (pa_cons (pv 3) pa_nil))))))) pa_nil)))))
      (pss_cons (ps_set (i := 7) S.nd rfl (by first | exact .inl rfl | exact .inr rfl) (pe_op op_addU (pv 7) (pe_lst (pa_cons (pe_lamG (k := 7) (d := none) (Ng := NH) (T := LT PP1 PP2) (TT := TTr (R3 CP CN CM)) T.d__law_heard pl__law_heard sc__law_heard rfl (Or.inl (by rfl)) hA hr (by rfl) (fun g cdg => gives_heard _ T Er g cdg) tc.tab rfl LTM2 (LTU2 hPP) (show LamN ["porter", "none", "odd", "wide", "low", "high", "zero", "heard", "due"] (defScope s__law_zeros_right) _ from lamN_by (by decide +kernel)) rfl (by intro s0 cl0 dV0 doc0 pm0 cv0 ctv0 h0; obtain rfl : dV0 = Value.none := h0; exact ⟨[], .of_eq rfl, fun y hy => nomatch hy⟩) (fun A outer s H E f c' hA2 hr2 => (pe_fX CX_first_zero hA2 hr2 (by decide) pl_first_zero (by rfl) (fun σ => passAt (takes_of rfl rfl rfl rfl) σ) (pa_cons (pv 6) (pa_cons (pv 4) (pa_cons (pv 5) (pa_cons (pv 3) pa_nil))))))) (pa_cons (pe_lamG (k := 7) (d := (some 0)) (Ng := NH) (T := LT PP1 PP2) (TT := TTr (R3 CP CN CM)) T.d__law_heard pl__law_heard sc__law_heard rfl (Or.inl (by rfl)) hA hr (by rfl) (fun g cdg => gives_heard _ T Er g cdg) tc.tab rfl LTM2 (LTU2 hPP) (show LamN ["porter", "none", "odd", "wide", "low", "high", "zero", "heard", "due"] (defScope s__law_zeros_right) _ from lamN_by (by decide +kernel)) ⟨rfl, _, _, rfl⟩ (by intro s0 cl0 dV0 doc0 pm0 cv0 ctv0 h0; obtain ⟨T0, t0, rfl, e0⟩ := h0; exact ⟨[(_, .int 0 t0)], .of_defaults rfl e0 rfl rfl rfl, fun y hy => by cases hy with | head => rfl | tail _ z => cases z⟩) (fun A outer s H E f c' hA2 hr2 => (pe_fX CX_first_zero hA2 hr2 (by decide) pl_first_zero (by rfl) (fun σ => passAt (takes_of rfl rfl rfl rfl) σ) (pa_cons (pv 6) (pa_cons (pv 4) (pa_cons (pv 5) (pa_cons pe_int pa_nil))))))) pa_nil)))))
      (pss_cons (ps_expr (pe_bm PySem.F.plainAttrs_list PySem.F.slot_list_append PySem.F.type_list_append mt_append (pv 7) (pa_cons (pe_lamG (k := 7) (d := none) (Ng := NH) (T := LT PP1 PP2) (TT := TTr (R3 CP CN CM)) T.d__law_heard pl__law_heard sc__law_heard rfl (Or.inl (by rfl)) hA hr (by rfl) (fun g cdg => gives_heard _ T Er g cdg) tc.tab rfl LTM2 (LTU2 hPP) (show LamN ["porter", "none", "odd", "wide", "low", "high", "zero", "heard", "due"] (defScope s__law_zeros_right) _ from lamN_by (by decide +kernel)) rfl (by intro s0 cl0 dV0 doc0 pm0 cv0 ctv0 h0; obtain rfl : dV0 = Value.none := h0; exact ⟨[], .of_eq rfl, fun y hy => nomatch hy⟩) (fun A outer s H E f c' hA2 hr2 => (pe_fX CX_first_zero hA2 hr2 (by decide) pl_first_zero (by rfl) (fun σ => passAt (takes_of rfl rfl rfl rfl) σ) (pa_cons (pe_lst (pa_cons pe_int (pa_cons pe_int pa_nil))) (pa_cons (pv 4) (pa_cons (pv 5) (pa_cons (pe_tup (pa_cons pe_int (pa_cons pe_int pa_nil))) pa_nil))))))) pa_nil)))
      (pss_one (ps_ret (pe_cmpR (op_eqU hr.units) (pv 7) (show PE _ _ (tLstE _) from pe_lst (pa_cons (pe_tup (pa_cons pe_str (pa_cons pe_str pa_nil))) (pa_cons (pe_tup (pa_cons pe_str (pa_cons pe_str pa_nil))) (pa_cons (pe_tup (pa_cons pe_str (pa_cons pe_str pa_nil))) (pa_cons (pe_tup (pa_cons pe_str (pa_cons pe_str pa_nil))) (pa_cons (pe_tup (pa_cons pe_str (pa_cons pe_str pa_nil))) (pa_cons (pe_tup (pa_cons pe_str (pa_cons pe_str pa_nil))) pa_nil))))))) (nomark _))))))))))))))), ?_⟩
    have L : LS q (LT PP1 PP2) K t H [] [] [vn, vo] [dn, dd] := ⟨hq, hT, .cons hn (.cons ho .nil), .nil⟩
    clear hq hT hn ho
    walk_at "mf"
    obtain ⟨oq1, hoq1⟩ := L.qy.at
    apply g_lstE (q := q) (K := K)
    case h =>
      walk_at "ed"
    case hl => decide +kernel
    intro ws1 pw1 Hw1 sw1 nw1 ew1 aw1 _
    have M1 : KL q K Hw1 pw1 _ _ := ⟨ew1, L.qy.ne nw1, aw1⟩
    have L := L.same sw1
    walk_at "mf"
    refine ⟨q, pw1, _, ws1, rfl, L.qy, by omega, M1.n, .inl (seqU M1.e), (fun z => by have z' := M1.a; rw [z] at z'; cases z'), (by rw [M1.a.len]; decide +kernel), fun t1 He1 x1 sx1 hq1 l1 u1 m1 => ?_⟩
    obtain ⟨d1, m1, hx1⟩ := M1.a.mem m1
    have hx1 := hx1.go sx1
    have L := L.sx sx1 hq1
    simp only [List.mem_cons, List.not_mem_nil, or_false] at m1
    have hwd : isFrD d1 = false ∨ (isFrD d1 = true ∧ Bt 100 (upD d1) ∧ Bt 100 (dnD d1) ∧ (valQ d1).num ≤ 0) := by
      rcases m1 with rfl | rfl | rfl | rfl | rfl | rfl | rfl <;> first | exact .inl rfl | exact .inr ⟨rfl, by decide, by decide, by decide +kernel⟩
    clear m1
    have L : LS q (LT PP1 PP2) K _ _ _ _ _ _ := ⟨L.qy, L.tab, .cons hx1 L.o, L.a⟩
    clear hx1
    walk_at "mf"
    obtain ⟨oq2, hoq2⟩ := L.qy.at
    apply g_lstE (q := q) (K := K)
    case h =>
      walk_at "ed"
    case hl => decide +kernel
    intro ws2 pw2 Hw2 sw2 nw2 ew2 aw2 _
    have M2 : KL q K Hw2 pw2 _ _ := ⟨ew2, L.qy.ne nw2, aw2⟩
    have L := L.same sw2
    walk_at "mf"
    refine ⟨q, pw2, _, ws2, rfl, L.qy, by omega, M2.n, .inl (seqU M2.e), (fun z => by have z' := M2.a; rw [z] at z'; cases z'), (by rw [M2.a.len]; decide +kernel), fun t2 He2 x2 sx2 hq2 l2 u2 m2 => ?_⟩
    obtain ⟨d2, m2, hx2⟩ := M2.a.mem m2
    have hx2 := hx2.go sx2
    have L := L.sx sx2 hq2
    simp only [List.mem_cons, List.not_mem_nil, or_false] at m2
    obtain ⟨dl, dh, rfl, hl1, hl2, hl3, hh1, hh2, hh3, hlh⟩ : ∃ dl dh, d2 = .tuple [dl, dh] ∧ isFrD dl = true ∧ Bt 100 (upD dl) ∧ Bt 100 (dnD dl) ∧ isFrD dh = true ∧ Bt 100 (upD dh) ∧ Bt 100 (dnD dh) ∧ (valQ dh - valQ dl).num ≤ 0 := by
      rcases m2 with rfl | rfl | rfl | rfl <;> exact ⟨_, _, rfl, rfl, by decide, by decide, rfl, by decide, by decide, by decide +kernel⟩
    clear m2
    obtain ⟨alh, xlh, rfl, nlh, tlh, hlhd⟩ := hx2.tupT
    obtain ⟨vl, vh, rfl, hvl, hvh⟩ : ∃ vl vh, xlh = [vl, vh] ∧ Dq q K He2 vl dl ∧ Dq q K He2 vh dh := by
      cases hlhd with
      | cons h1 t => cases t with
        | cons h2 t =>
          cases t
          exact ⟨_, _, rfl, h1, h2⟩
    refine g_tupG tlh rfl ?_
    clear hx2 hlhd
    have L : LS q (LT PP1 PP2) K _ _ _ _ _ _ := ⟨L.qy, L.tab, .cons hvl L.o, L.a⟩
    have L : LS q (LT PP1 PP2) K _ _ _ _ _ _ := ⟨L.qy, L.tab, .cons hvh L.o, L.a⟩
    clear hvl hvh
    walk_at "mf"
    obtain ⟨oq3, hoq3⟩ := L.qy.at
    apply g_lstE (q := q) (K := K)
    case h =>
      walk_at "ed"
    case hl => decide +kernel
    intro ws3 pw3 Hw3 sw3 nw3 ew3 aw3 _
    have M3 : KL q K Hw3 pw3 _ _ := ⟨ew3, L.qy.ne nw3, aw3⟩
    have L := L.same sw3
    walk_at "mf"
    refine ⟨q, pw3, _, ws3, rfl, L.qy, by omega, M3.n, .inl (seqU M3.e), (fun z => by have z' := M3.a; rw [z] at z'; cases z'), (by rw [M3.a.len]; decide +kernel), fun t3 He3 x3 sx3 hq3 l3 u3 m3 => ?_⟩
    obtain ⟨d3, m3, hx3⟩ := M3.a.mem m3
    have hx3 := hx3.go sx3
    have L := L.sx sx3 hq3
    simp only [List.mem_cons, List.not_mem_nil, or_false] at m3
    have hz : okP d3 ∧ trimR ((itemsD d3).map valQ) = [] := by
      rcases m3 with rfl | rfl | rfl <;> exact ⟨⟨rfl, by decide +kernel, by decide⟩, by decide +kernel⟩
    obtain ⟨hz1, hz2⟩ := hz
    clear m3
    have L : LS q (LT PP1 PP2) K _ _ _ _ _ _ := ⟨L.qy, L.tab, .cons hx3 L.o, L.a⟩
    clear hx3
    walk_at "mf"
    refine g_lam L.tab (fun Ha4 eN4 Ta4 => g_ttr ?_)
    have L := L.ext eN4 Ta4
    walk_at "mf"
    refine ⟨q, _, _, _, rfl, L.qy.trk, .inl ⟨⟨_, L.o.tl.tl.tl.tl.fst, hbn, hln⟩, Er1.wr (.inl ⟨rfl, rfl⟩) fun pp4 Hb4 sb4 nb4 eb4 => ?_⟩⟩
    have L := (L.same sb4).snoc (dq_wd (w := "poly") (p := "poly") L.qy nb4 sb4 eb4 (by decide) (by decide))
    walk_at "mf"
    refine g_lam L.tab (fun Ha5 eN5 Ta5 => g_ttr ?_)
    have L := L.ext eN5 Ta5
    walk_at "mf"
    refine g_newL (by show 1 ≤ sizeLine; decide) fun r6 Hd6 nd6 sd6 ed6 => ?_
    have G6 : GP q K Hd6 (.ref r6) _ := GP.ints (is := [1]) (L.qy.ne nd6) ed6 (by decide) (by decide)
    have L := L.same sd6
    walk_at "mf"
    refine ⟨q, _, _, _, rfl, L.qy.trk, .inr ⟨_, G6, .inl ⟨⟨_, L.o.tl.tl.tl.tl.tl.fst, hfo⟩, Er1.wr (.inr (.inl ⟨rfl, rfl⟩)) fun pp5 Hb5 sb5 nb5 eb5 => ?_⟩⟩⟩
    have L := (L.same sb5).snoc (dq_wd (w := "number") (p := "low") L.qy nb5 sb5 eb5 (by decide) (by decide))
    have G6 := G6.kx (Same.kx sb5)
    walk_at "mf"
    clear G6
    refine g_lam L.tab (fun Ha7 eN7 Ta7 => g_ttr ?_)
    have L := L.ext eN7 Ta7
    walk_at "mf"
    refine g_newL (by show 1 ≤ sizeLine; decide) fun r8 Hd8 nd8 sd8 ed8 => ?_
    have G8 : GP q K Hd8 (.ref r8) _ := GP.ints (is := [1]) (L.qy.ne nd8) ed8 (by decide) (by decide)
    have L := L.same sd8
    walk_at "mf"
    refine ⟨q, _, _, _, rfl, L.qy.trk, .inr ⟨_, G8, .inr (.inl ⟨⟨.int 0, .int 0, rfl⟩, ⟨_, L.o.tl.tl.tl.tl.tl.fst, hfo⟩, Er1.wr (.inr (.inl ⟨rfl, rfl⟩)) fun pp7 Hb7 sb7 nb7 eb7 => ?_⟩)⟩⟩
    have L := (L.same sb7).snoc (dq_wd (w := "number") (p := "high") L.qy nb7 sb7 eb7 (by decide) (by decide))
    have G8 := G8.kx (Same.kx sb7)
    walk_at "mf"
    clear G8
    refine g_newL (by simp only [List.length_cons, List.length_nil]; decide) fun p9 Hf9 nf9 sf9 ef9 => ?_
    have A : KL q K Hf9 p9 _ _ := ⟨ef9, L.qy.ne nf9, L.a.kx (Same.kx sf9)⟩
    have L := (L.same sf9).none
    walk_at "mf"
    refine g_lam L.tab (fun Ha10 eN10 Ta10 => g_ttr ?_)
    have L := L.ext eN10 Ta10
    have A := A.kx (extN_kx eN10)
    walk_at "mf"
    refine ⟨q, _, _, _, rfl, L.qy.trk, .inr ⟨_, (GP.of L.o.fst hz1 hz2), .inr (.inr ⟨⟨_, L.o.tl.tl.fst, hl1⟩, ⟨_, L.o.tl.fst, hh1⟩, .inl ⟨rfl, Er1.wr (.inr (.inr ⟨rfl, rfl⟩)) fun pp10 Hb10 sb10 nb10 eb10 => ?_⟩⟩)⟩⟩
    have L := (L.same sb10).snoc (dq_wd (w := "misfit") (p := "poly") L.qy nb10 sb10 eb10 (by decide) (by decide))
    have A := A.kx (Same.kx sb10)
    walk_at "mf"
    refine g_lam L.tab (fun Ha11 eN11 Ta11 => g_ttr ?_)
    have L := L.ext eN11 Ta11
    have A := A.kx (extN_kx eN11)
    walk_at "mf"
    refine g_newL (by show 2 ≤ sizeLine; decide) fun r12 Hd12 nd12 sd12 ed12 => ?_
    have G12 : GP q K Hd12 (.ref r12) _ := GP.ints (is := [0, 1]) (L.qy.ne nd12) ed12 (by decide) (by decide)
    have L := L.same sd12
    have A := A.kx (Same.kx sd12)
    walk_at "mf"
    refine ⟨q, _, _, _, rfl, L.qy.trk, .inr ⟨_, G12, .inr (.inr ⟨⟨_, L.o.tl.tl.fst, hl1⟩, ⟨_, L.o.tl.fst, hh1⟩, .inr ⟨by decide +kernel, ⟨_, _, Fr.of L.o.tl.tl.fst hl1 hl2 hl3, Fr.of L.o.tl.fst hh1 hh2 hh3, hlh⟩, Er1.wr (.inr (.inr ⟨rfl, rfl⟩)) fun pp11 Hb11 sb11 nb11 eb11 => ?_⟩⟩)⟩⟩
    have L := (L.same sb11).snoc (dq_wd (w := "misfit") (p := "high") L.qy nb11 sb11 eb11 (by decide) (by decide))
    have A := A.kx (Same.kx sb11)
    have G12 := G12.kx (Same.kx sb11)
    walk_at "mf"
    clear G12
    refine g_lam L.tab (fun Ha13 eN13 Ta13 => g_ttr ?_)
    have L := L.ext eN13 Ta13
    have A := A.kx (extN_kx eN13)
    walk_at "mf"
    refine ⟨q, _, _, _, rfl, L.qy.trk, .inl ⟨⟨_, L.o.tl.tl.tl.tl.fst, hbn, hln⟩, Er1.wr (.inl ⟨rfl, rfl⟩) fun pp13 Hb13 sb13 nb13 eb13 => ?_⟩⟩
    have L := (L.same sb13).snoc (dq_wd (w := "poly") (p := "poly") L.qy nb13 sb13 eb13 (by decide) (by decide))
    have A := A.kx (Same.kx sb13)
    walk_at "mf"
    refine g_newL (by simp only [List.length_cons, List.length_nil]; decide) fun p14 Hf14 nf14 sf14 ef14 => ?_
    have B : KL q K Hf14 p14 _ _ := ⟨ef14, L.qy.ne nf14, L.a.kx (Same.kx sf14)⟩
    have L := (L.same sf14).none
    have A := A.kx (Same.kx sf14)
    walk_at "mf"
    refine g_cat A.e B.e (by rw [A.a.len, B.a.len]; decide) fun p15 Hf15 nf15 sf15 ef15 => ?_
    have A2 : KL q K Hf15 p15 _ _ := ⟨ef15, L.qy.ne nf15, (A.a.app B.a).kx (Same.kx sf15)⟩
    have L := L.same sf15
    walk_at "mf"
    have A := A2
    clear A2
    refine g_lam L.tab (fun Ha16 eN16 Ta16 => g_ttr ?_)
    have L := L.ext eN16 Ta16
    have A := A.kx (extN_kx eN16)
    walk_at "mf"
    refine g_newL (by show 1 ≤ sizeLine; decide) fun r17 Hd17 nd17 sd17 ed17 => ?_
    have G17 : GP q K Hd17 (.ref r17) _ := GP.ints (is := [1]) (L.qy.ne nd17) ed17 (by decide) (by decide)
    have L := L.same sd17
    have A := A.kx (Same.kx sd17)
    walk_at "mf"
    refine ⟨q, _, _, _, rfl, L.qy.trk, .inr ⟨_, G17, .inl ⟨⟨_, L.o.tl.tl.tl.tl.tl.fst, hfo⟩, Er1.wr (.inr (.inl ⟨rfl, rfl⟩)) fun pp16 Hb16 sb16 nb16 eb16 => ?_⟩⟩⟩
    have L := (L.same sb16).snoc (dq_wd (w := "number") (p := "low") L.qy nb16 sb16 eb16 (by decide) (by decide))
    have A := A.kx (Same.kx sb16)
    have G17 := G17.kx (Same.kx sb16)
    walk_at "mf"
    clear G17
    refine g_lam L.tab (fun Ha18 eN18 Ta18 => g_ttr ?_)
    have L := L.ext eN18 Ta18
    have A := A.kx (extN_kx eN18)
    walk_at "mf"
    refine g_newL (by show 1 ≤ sizeLine; decide) fun r19 Hd19 nd19 sd19 ed19 => ?_
    have G19 : GP q K Hd19 (.ref r19) _ := GP.ints (is := [1]) (L.qy.ne nd19) ed19 (by decide) (by decide)
    have L := L.same sd19
    have A := A.kx (Same.kx sd19)
    walk_at "mf"
    refine ⟨q, _, _, _, rfl, L.qy.trk, .inr ⟨_, G19, .inr (.inl ⟨⟨.int 0, .int 0, rfl⟩, ⟨_, L.o.tl.tl.tl.tl.tl.fst, hfo⟩, Er1.wr (.inr (.inl ⟨rfl, rfl⟩)) fun pp18 Hb18 sb18 nb18 eb18 => ?_⟩)⟩⟩
    have L := (L.same sb18).snoc (dq_wd (w := "number") (p := "high") L.qy nb18 sb18 eb18 (by decide) (by decide))
    have A := A.kx (Same.kx sb18)
    have G19 := G19.kx (Same.kx sb18)
    walk_at "mf"
    clear G19
    refine g_lam L.tab (fun Ha20 eN20 Ta20 => g_ttr ?_)
    have L := L.ext eN20 Ta20
    have A := A.kx (extN_kx eN20)
    walk_at "mf"
    refine ⟨q, _, _, _, rfl, L.qy.trk, .inr ⟨_, (GP.of L.o.fst hz1 hz2), .inr (.inr ⟨⟨_, L.o.tl.tl.fst, hl1⟩, ⟨_, L.o.tl.fst, hh1⟩, ⟨_, _, Fr.of L.o.tl.tl.fst hl1 hl2 hl3, Fr.of L.o.tl.fst hh1 hh2 hh3, hlh⟩, Er1.wr (.inr (.inr ⟨rfl, rfl⟩)) fun pp20 Hb20 sb20 nb20 eb20 => ?_⟩)⟩⟩
    have L := (L.same sb20).snoc (dq_wd (w := "misfit") (p := "high") L.qy nb20 sb20 eb20 (by decide) (by decide))
    have A := A.kx (Same.kx sb20)
    walk_at "mf"
    refine g_newL (by simp only [List.length_cons, List.length_nil]; decide) fun p21 Hf21 nf21 sf21 ef21 => ?_
    have B : KL q K Hf21 p21 _ _ := ⟨ef21, L.qy.ne nf21, L.a.kx (Same.kx sf21)⟩
    have L := (L.same sf21).none
    have A := A.kx (Same.kx sf21)
    walk_at "mf"
    refine g_cat A.e B.e (by rw [A.a.len, B.a.len]; decide) fun p22 Hf22 nf22 sf22 ef22 => ?_
    have A2 : KL q K Hf22 p22 _ _ := ⟨ef22, L.qy.ne nf22, (A.a.app B.a).kx (Same.kx sf22)⟩
    have L := L.same sf22
    walk_at "mf"
    have A := A2
    clear A2
    obtain ⟨oq23, hoq23⟩ := L.qy.at
    apply g_lstE (q := q) (K := K)
    case h => walk_at "ed"
    case hl => decide
    intro ws23 pw23 Hw23 sw23 nw23 ew23 aw23 _
    have D1 : KL q K Hw23 pw23 _ _ := ⟨ew23, L.qy.ne nw23, aw23⟩
    have L := L.same sw23
    have A := A.kx (Same.kx sw23)
    walk_at "mf"
    refine g_neW (seqU A.e) (seqU D1.e) A.a D1.a (by decide +kernel) (by decide +kernel) (by decide +kernel) ?_
    walk_at "mf"
    clear A D1
    refine g_lam L.tab (fun Ha24 eN24 Ta24 => g_ttr ?_)
    have L := L.ext eN24 Ta24
    walk_at "mf"
    refine ⟨q, _, _, _, _, rfl, L.qy.trk, .inl ⟨⟨_, L.o.tl.tl.tl.tl.fst, hbn, hln⟩, Er1.wr (.inl ⟨rfl, rfl⟩) fun pp24 Hb24 sb24 nb24 eb24 => ?_⟩⟩
    have L := (L.same sb24).snoc (dq_wd (w := "poly") (p := "poly") L.qy nb24 sb24 eb24 (by decide) (by decide))
    walk_at "mf"
    refine g_lam L.tab (fun Ha25 eN25 Ta25 => g_ttr ?_)
    have L := L.ext eN25 Ta25
    walk_at "mf"
    refine g_newL (by show 1 ≤ sizeLine; decide) fun r26 Hd26 nd26 sd26 ed26 => ?_
    have G26 : GP q K Hd26 (.ref r26) _ := GP.ints (is := [1]) (L.qy.ne nd26) ed26 (by decide) (by decide)
    have L := L.same sd26
    walk_at "mf"
    refine ⟨q, _, _, _, _, rfl, L.qy.trk, .inr ⟨_, G26, .inl ⟨⟨_, L.o.tl.tl.tl.tl.tl.fst, hfo⟩, Er1.wr (.inr (.inl ⟨rfl, rfl⟩)) fun pp25 Hb25 sb25 nb25 eb25 => ?_⟩⟩⟩
    have L := (L.same sb25).snoc (dq_wd (w := "number") (p := "low") L.qy nb25 sb25 eb25 (by decide) (by decide))
    have G26 := G26.kx (Same.kx sb25)
    walk_at "mf"
    clear G26
    refine g_lam L.tab (fun Ha27 eN27 Ta27 => g_ttr ?_)
    have L := L.ext eN27 Ta27
    walk_at "mf"
    refine g_newL (by show 1 ≤ sizeLine; decide) fun r28 Hd28 nd28 sd28 ed28 => ?_
    have G28 : GP q K Hd28 (.ref r28) _ := GP.ints (is := [1]) (L.qy.ne nd28) ed28 (by decide) (by decide)
    have L := L.same sd28
    walk_at "mf"
    refine ⟨q, _, _, _, _, rfl, L.qy.trk, .inr ⟨_, G28, .inr (.inl ⟨⟨.int 0, .int 0, rfl⟩, ⟨_, L.o.tl.tl.tl.tl.tl.fst, hfo⟩, Er1.wr (.inr (.inl ⟨rfl, rfl⟩)) fun pp27 Hb27 sb27 nb27 eb27 => ?_⟩)⟩⟩
    have L := (L.same sb27).snoc (dq_wd (w := "number") (p := "high") L.qy nb27 sb27 eb27 (by decide) (by decide))
    have G28 := G28.kx (Same.kx sb27)
    walk_at "mf"
    clear G28
    refine g_newL (by simp only [List.length_cons, List.length_nil]; decide) fun p29 Hf29 nf29 sf29 ef29 => ?_
    have A : KL q K Hf29 p29 _ _ := ⟨ef29, L.qy.ne nf29, L.a.kx (Same.kx sf29)⟩
    have L := (L.same sf29).none
    walk_at "mf"
    refine g_lam L.tab (fun Ha30 eN30 Ta30 => g_ttr ?_)
    have L := L.ext eN30 Ta30
    have A := A.kx (extN_kx eN30)
    walk_at "mf"
    refine ⟨q, _, _, _, _, rfl, L.qy.trk, .inr ⟨_, (GP.of L.o.fst hz1 hz2), .inr (.inr ⟨⟨_, L.o.tl.tl.fst, hl1⟩, ⟨_, L.o.tl.fst, hh1⟩, .inl ⟨(bw_of L.o.tl.tl.tl.fst hwd), Er1.wr (.inr (.inl ⟨rfl, rfl⟩)) fun pp30 Hb30 sb30 nb30 eb30 => ?_⟩⟩)⟩⟩
    have L := (L.same sb30).snoc (dq_wd (w := "number") (p := "width") L.qy nb30 sb30 eb30 (by decide) (by decide))
    have A := A.kx (Same.kx sb30)
    walk_at "mf"
    refine g_lam L.tab (fun Ha31 eN31 Ta31 => g_ttr ?_)
    have L := L.ext eN31 Ta31
    have A := A.kx (extN_kx eN31)
    walk_at "mf"
    refine ⟨q, _, _, _, _, rfl, L.qy.trk, .inr ⟨_, (GP.of L.o.fst hz1 hz2), .inr (.inr ⟨⟨_, L.o.tl.tl.fst, hl1⟩, ⟨_, L.o.tl.fst, hh1⟩, .inr ⟨⟨_, Fr.of (n := 100) (.int 1) rfl (by decide) (by decide), by decide +kernel⟩, .inl ⟨rfl, Er1.wr (.inr (.inr ⟨rfl, rfl⟩)) fun pp31 Hb31 sb31 nb31 eb31 => ?_⟩⟩⟩)⟩⟩
    have L := (L.same sb31).snoc (dq_wd (w := "misfit") (p := "poly") L.qy nb31 sb31 eb31 (by decide) (by decide))
    have A := A.kx (Same.kx sb31)
    walk_at "mf"
    refine g_newL (by simp only [List.length_cons, List.length_nil]; decide) fun p32 Hf32 nf32 sf32 ef32 => ?_
    have B : KL q K Hf32 p32 _ _ := ⟨ef32, L.qy.ne nf32, L.a.kx (Same.kx sf32)⟩
    have L := (L.same sf32).none
    have A := A.kx (Same.kx sf32)
    walk_at "mf"
    refine g_cat A.e B.e (by rw [A.a.len, B.a.len]; decide) fun p33 Hf33 nf33 sf33 ef33 => ?_
    have A2 : KL q K Hf33 p33 _ _ := ⟨ef33, L.qy.ne nf33, (A.a.app B.a).kx (Same.kx sf33)⟩
    have L := L.same sf33
    walk_at "mf"
    have A := A2
    clear A2
    refine g_bmZ ?_
    walk_at "mf"
    refine ⟨.inl ⟨rfl, _, seqU A.e⟩, ?_⟩
    walk_at "mf"
    refine g_lam L.tab (fun Ha34 eN34 Ta34 => g_ttr ?_)
    have L := L.ext eN34 Ta34
    have A := A.kx (extN_kx eN34)
    walk_at "mf"
    refine g_newL (by show 2 ≤ sizeLine; decide) fun r35 Hd35 nd35 sd35 ed35 => ?_
    have G35 : GP q K Hd35 (.ref r35) _ := GP.ints (is := [1, 1]) (L.qy.ne nd35) ed35 (by decide) (by decide)
    have L := L.same sd35
    have A := A.kx (Same.kx sd35)
    walk_at "mf"
    refine g_newT (by show 2 ≤ sizeLine; decide) fun p36 Hc36 nc36 sc36 ec36 => ?_
    have W9 : Dq q K Hc36 (.ref p36) (.tuple [.int 1, .int 9]) := .tup (L.qy.ne nc36) (tupU ec36) (.cons (.int _) (.cons (.int _) .nil))
    have L := L.same sc36
    have A := A.kx (Same.kx sc36)
    have G35 := G35.kx (Same.kx sc36)
    walk_at "mf"
    refine ⟨q, _, _, _, _, rfl, L.qy.trk, .inr ⟨_, G35, .inr (.inr ⟨⟨_, L.o.tl.tl.fst, hl1⟩, ⟨_, L.o.tl.fst, hh1⟩, .inr ⟨⟨_, Fr.of (n := 100) W9 rfl (by decide) (by decide), by decide +kernel⟩, .inr ⟨by decide +kernel, ⟨_, _, Fr.of L.o.tl.tl.fst hl1 hl2 hl3, Fr.of L.o.tl.fst hh1 hh2 hh3, hlh⟩, Er1.wr (.inr (.inr ⟨rfl, rfl⟩)) fun pp34 Hb34 sb34 nb34 eb34 => ?_⟩⟩⟩)⟩⟩
    have V1 := dq_wd (w := "misfit") (p := "high") L.qy nb34 sb34 eb34 (by decide) (by decide)
    have L := L.same sb34
    have A := A.kx (Same.kx sb34)
    have G35 := G35.kx (Same.kx sb34)
    walk_at "mf"
    clear G35
    have AW : KL q K _ _ _ (([("poly", "poly"), ("number", "low"), ("number", "high"), ("number", "width"), ("misfit", "poly")] : List (Str × Str)).map fun z => wd z.1 z.2) := A
    refine ⟨_, _, _, rfl, rfl, A.e, by rw [A.a.len]; decide, ?_⟩
    have A3 := AW.appd V1
    have L := L.app2 A (.ref pp34)
    clear A AW V1
    walk_at "mf"
    obtain ⟨oq37, hoq37⟩ := L.qy.at
    apply g_lstE (q := q) (K := K)
    case h => walk_at "ed"
    case hl => decide
    intro ws37 pw37 Hw37 sw37 nw37 ew37 aw37 _
    have D1 : KL q K Hw37 pw37 _ _ := ⟨ew37, L.qy.ne nw37, aw37⟩
    have L := L.same sw37
    have A3 := A3.kx (Same.kx sw37)
    walk_at "mf"
    refine g_eqW (seqU A3.e) (seqU D1.e) A3.a D1.a (by decide +kernel) (by decide +kernel) (by decide +kernel) ?_
    exact k _ _ L.tab L.qy (by omega)
end Mf
namespace Mf
open PySem PySem.Spec PyProof.Rows L2
local macro_rules | `(tactic| walk_at "mf1") => `(tactic| first
  | ((with_reducible apply g_var); exact rfl)
  | with_reducible first
    | refine g_c ?_ | refine g_op ?_ | refine g_un ?_ | refine g_cb ?_ | refine g_cl ?_ | refine g_clX ?_ | refine g_mkR ?_ | refine g_clk ?_ | refine g_nil ?_ | refine g_cons ?_
    | refine g_tB ?_ | refine g_test ?_ | refine g_bl ?_ | refine g_and ?_ | refine g_or ?_ | refine g_not ?_ | refine g_andV ?_ | refine g_orV ?_ | refine g_notV ?_
    | refine g_if ?_ | refine g_ifS ?_ | refine g_seq ?_ | refine g_next ?_ | refine g_ret ?_ | refine g_drop ?_ | refine g_asg ?_ | refine g_name ?_ | refine g_sub ?_
    | refine g_int ?_ | refine g_intB ?_ | refine g_abs ?_ | refine g_I0 ?_ | refine g_addI ?_ | refine g_U ?_ | refine g_isNn ?_ | refine g_isNi ?_ | refine g_notN ?_ | refine g_notT1 ?_ | refine g_notT2 ?_ | refine g_notT3 ?_ | refine g_notT4 ?_ | refine g_notTb ?_ | refine g_notTi ?_ | refine g_eqI ?_ | refine g_neI ?_ | refine g_neSs ?_ | refine g_neS ?_ | refine g_eqS ?_
    | refine g_iteT ?_ | refine g_iteF ?_ | refine g_iteNT ?_ | refine g_iteNF ?_ | refine g_lst ?_ | refine g_tup ?_ | refine g_seqP ?_ | refine g_sl ?_ | refine g_noPart ?_ | refine g_part ?_ | refine g_yes ?_ | refine g_thenT ?_ | refine g_consG ?_ | refine g_nilG ?_ | refine g_ii ?_ | refine g_par ?_ | refine g_par3 ?_ | refine g_vv ?_ | refine g_vvv ?_ | refine g_reprB ?_ | refine g_lcL ?_ | refine g_lcR ?_
  | ((with_reducible refine g_mod ?_ ?_); (first | omega | decide))
  | ((with_reducible refine g_div ?_ ?_ ?_); (first | omega | decide); (first | assumption | decide))
  | ((with_reducible refine g_mulL ?_ ?_ ?_); (first | omega | decide); (first | omega | decide))
  | ((with_reducible refine g_mulR ?_ ?_ ?_); (first | omega | decide); (first | omega | decide))
  | ((with_reducible refine g_pow ?_ ?_ ?_ ?_); decide; decide; (first | omega | decide))
  | dsimp only)
local macro_rules | `(tactic| walk_at "mf1s") => `(tactic| first
  | ((with_reducible apply g_var); exact rfl)
  | with_reducible first
    | refine g_c ?_ | refine g_op ?_ | refine g_un ?_ | refine g_cb ?_ | refine g_cl ?_ | refine g_clX ?_ | refine g_mkR ?_ | refine g_clk ?_ | refine g_nil ?_ | refine g_cons ?_
    | refine g_tB ?_ | refine g_test ?_ | refine g_bl ?_ | refine g_and ?_ | refine g_or ?_ | refine g_not ?_ | refine g_andV ?_ | refine g_orV ?_ | refine g_notV ?_
    | refine g_if ?_ | refine g_ifS ?_ | refine g_next ?_ | refine g_ret ?_ | refine g_drop ?_ | refine g_asg ?_ | refine g_name ?_ | refine g_sub ?_
    | refine g_int ?_ | refine g_intB ?_ | refine g_abs ?_ | refine g_I0 ?_ | refine g_addI ?_ | refine g_U ?_ | refine g_isNn ?_ | refine g_isNi ?_ | refine g_notN ?_ | refine g_notT1 ?_ | refine g_notT2 ?_ | refine g_notT3 ?_ | refine g_notT4 ?_ | refine g_notTb ?_ | refine g_notTi ?_ | refine g_eqI ?_ | refine g_neI ?_ | refine g_neSs ?_ | refine g_neS ?_ | refine g_eqS ?_
    | refine g_iteT ?_ | refine g_iteF ?_ | refine g_iteNT ?_ | refine g_iteNF ?_ | refine g_lst ?_ | refine g_tup ?_ | refine g_seqP ?_ | refine g_sl ?_ | refine g_noPart ?_ | refine g_part ?_ | refine g_yes ?_ | refine g_thenT ?_ | refine g_consG ?_ | refine g_nilG ?_ | refine g_ii ?_ | refine g_par ?_ | refine g_par3 ?_ | refine g_vv ?_ | refine g_vvv ?_ | refine g_reprB ?_ | refine g_lcL ?_ | refine g_lcR ?_
  | ((with_reducible refine g_mod ?_ ?_); (first | omega | decide))
  | ((with_reducible refine g_div ?_ ?_ ?_); (first | omega | decide); (first | assumption | decide))
  | ((with_reducible refine g_mulL ?_ ?_ ?_); (first | omega | decide); (first | omega | decide))
  | ((with_reducible refine g_mulR ?_ ?_ ?_); (first | omega | decide); (first | omega | decide))
  | ((with_reducible refine g_pow ?_ ?_ ?_ ?_); decide; decide; (first | omega | decide))
  | dsimp only)
local macro_rules | `(tactic| walk_at "mfs") => `(tactic| repeat walk_at "mf1s")
local macro_rules | `(tactic| walk_at "mf") => `(tactic| repeat walk_at "mf1")
local macro_rules | `(tactic| walk_at "ed") => `(tactic| repeat (first
  | with_reducible first
    | exact eds_nil | apply eds_cons | exact ed_int | exact ed_bl | exact ed_non | apply ed_neg
  | ((with_reducible apply ed_str); decide)
  | ((with_reducible apply ed_var); (exact rfl); (first | assumption | exact Dq.int _))
  | ((with_reducible apply ed_dict0); assumption)
  | ((with_reducible apply ed_dict2); assumption)
  | ((with_reducible apply ed_tup); assumption)
  | ((with_reducible apply ed_lst); assumption)
  | (with_reducible apply ed_pow)
  | (with_reducible apply ed_mul)
  | assumption
  | (exact Dq.int _)
  | (exact ⟨by decide, by decide, by decide⟩)
  | (show List.length _ ≤ 1000; simp only [List.length_cons, List.length_nil]; decide)))
def sp_law (PP1 PP2 : Addr) (K : PySem.W.Frag) : Sp := fun vs H Q _ => ∃ (a : Addr) (ns : List Int), vs = [.ref a] ∧ SqL K H a (ns.map V.int) ∧ ns.length ≤ 63 ∧ LamX.Tabs (LT PP1 PP2) H ∧ ∀ H', Q (.bl true) H'
theorem ok_law (c : Cn) (T : Tx c) {cc1 cc2 PP1 PP2 : Addr} (tc1 : TC c "_law_polys_right" cc1 PP1) (tc2 : TC c "_law_zeros_right" cc2 PP2) (hPP : PP1 ≠ PP2) : Cl c 11 "law" s_law ["script"] (sp_law PP1 PP2 c.K) := by
  obtain ⟨P, w, K, mg, base⟩ := c
  have C__law_pick := ok__law_pick _ T
  have C__law_polys_right := ok__law_polys_right _ T tc1 hPP
  have C__law_porter := ok__law_porter _ T
  have C__law_zeros_right := ok__law_zeros_right _ T tc2 hPP
  refine De.cl (N := ["script", "porter", "turn", "none", "odd"]) T.d_law sc_law (fun vs H Q E h => ?_) (fun f0 cdv A outer s H vs Q E hA hr h => ?_)
  · obtain ⟨a, ns, rfl, _⟩ := h; rfl
  · have S := sc_law
    obtain ⟨a, ns, rfl, hS, hlen, hTab, k⟩ := h
    refine ⟨_, (pss_cons (ps_set (i := 1) S.nd rfl (by first | exact .inl rfl | exact .inr rfl) (pe_f C__law_porter hA hr (by decide) pl__law_porter (by rfl) (pa_cons (pv 0) pa_nil)))
      (pss_cons (ps_for PassesOwn.never rfl (pi_range1 rfl T.n_range (pa_cons pe_int pa_nil)) (pg_name (i := 2) S.nd rfl (by first | exact .inl rfl | exact .inr rfl)) (pss_cons (ps_set (i := 3) S.nd rfl (by first | exact .inl rfl | exact .inr rfl) (pe_f C__law_pick hA hr (by decide) pl__law_pick (by rfl) (pa_cons (pv 1) (pa_cons (show PE _ _ (tLstE _) from pe_lst (pa_cons pe_non (pa_cons pe_int (pa_cons pe_str (pa_cons (pe_lst (pa_cons pe_non pa_nil)) (pa_cons (pe_lst (pa_cons pe_int (pa_cons pe_bl pa_nil))) (pa_cons (pe_lst (pa_cons (pe_tup (pa_cons pe_int (pa_cons pe_int pa_nil))) pa_nil)) (pa_cons (pe_lst (pa_cons (pe_tup (pa_cons pe_int (pa_cons (pe_un un_neg pe_int) pa_nil))) pa_nil)) (pa_cons (pe_lst (pa_cons (pe_lst (pa_cons pe_int (pa_cons pe_int (pa_cons pe_int pa_nil)))) pa_nil)) (pa_cons (show PE _ _ (tMulE _ _) from pe_op op_mulU (pe_lst (pa_cons pe_int pa_nil)) pe_int) (pa_cons pe_dnewK (pa_cons (pe_lst (pa_cons pe_str pa_nil)) (pa_cons pe_bl pa_nil))))))))))))) pa_nil))))
      (pss_cons (ps_set (i := 4) S.nd rfl (by first | exact .inl rfl | exact .inr rfl) (pe_f C__law_pick hA hr (by decide) pl__law_pick (by rfl) (pa_cons (pv 1) (pa_cons (show PE _ _ (tLstE _) from pe_lst (pa_cons pe_non (pa_cons pe_bl (pa_cons pe_str (pa_cons (pe_tup (pa_cons pe_int (pa_cons pe_int pa_nil))) (pa_cons (pe_tup (pa_cons pe_int (pa_cons (pe_un un_neg pe_int) pa_nil))) (pa_cons (pe_lst (pa_cons pe_int pa_nil)) (pa_cons (pe_tup (pa_cons pe_int (pa_cons pe_int (pa_cons pe_int pa_nil)))) (pa_cons (pe_lst (pa_cons pe_int (pa_cons pe_non pa_nil))) (pa_cons pe_dnewK pa_nil)))))))))) pa_nil))))
      (pss_one (ps_if (PW.pt (pw_or (pt_not (pt_val (pe_f C__law_polys_right hA hr (by decide) pl__law_polys_right (by rfl) (pa_cons (pv 1) (pa_cons (pv 3) (pa_cons (pv 4) pa_nil)))))) (pw_or1 (pt_not (pt_val (pe_f C__law_zeros_right hA hr (by decide) pl__law_zeros_right (by rfl) (pa_cons (pv 1) (pa_cons (pv 3) (pa_cons (pv 4) pa_nil))))))))) (pss_one (ps_ret pe_bl)) pss_nil)))))
      (pss_one (ps_ret pe_bl)))), ?_⟩
    refine g_seq (g_asg ?_)
    walk_at "mf"
    refine ⟨a, ns, rfl, hS, hlen, fun q H1 s1 hq0 hq => ?_⟩
    have hT1 := hTab.ext s1
    refine g_name (g_seq ?_)
    refine g_for1 ⟨by decide, by decide⟩ (fun i σ' H' => (∃ s2 s3 s4, σ' = [some (.ref a), some (.ref q), s2, s3, s4]) ∧ LamX.Tabs (LT PP1 PP2) H' ∧ ∃ t, Qy K q t H' ∧ t ≤ 40 * (i : Int)) ⟨⟨_, _, _, rfl⟩, hT1, 0, hq, by omega⟩ (fun i σ' H' hi hP => ?_) (fun σ' H' hP => ?_)
    · obtain ⟨⟨s2, s3, s4, rfl⟩, hT, t, hq, ht⟩ := hP
      have hi3 : i < 3 := hi
      clear hS hlen s1 hq0 hT1 hTab
      walk_at "mf"
      obtain ⟨oq, hoq⟩ := hq.at
      apply g_lstE (q := q) (K := K)
      case h =>
        walk_at "ed"
        exact ed_rep hoq (by decide) (by decide)
        walk_at "ed"
      case hl => decide +kernel
      intro ws p1 H1 s1 n1 e1 a1 _
      have hq1 := hq.same s1
      have hT := hT.ext s1
      walk_at "mf"
      refine ⟨q, p1, t, ws, rfl, hq1, by omega, hq.ne n1, .inl (seqU e1), (fun z => by rw [z] at a1; cases a1), (by rw [a1.len]; decide +kernel), fun t2 H2 vn sx2 hq2 l2 u2 m2 => ?_⟩
      obtain ⟨dn, mdn, hdn⟩ := a1.mem m2
      have hbn : isPyD dn = false ∧ (itD dn).length ≤ 900 := by
        simp only [List.mem_cons, List.not_mem_nil, or_false] at mdn
        rcases mdn with rfl | rfl | rfl | rfl | rfl | rfl | rfl | rfl | rfl | rfl | rfl | rfl <;> exact ⟨by decide +kernel, by decide +kernel⟩
      have hT := tabs_x hq1 sx2 hT
      have hn := hdn.go sx2
      clear m2 mdn hdn a1 e1 n1 s1 hq hq1 hoq sx2
      walk_at "mf"
      obtain ⟨oq3, hoq3⟩ := hq2.at
      apply g_lstE (q := q) (K := K)
      case h => walk_at "ed"
      case hl => decide
      intro ws p3 H3 s3 n3 e3 a3 _
      have hq3 := hq2.same s3
      have hT := hT.ext s3
      have hn := hn.go (Same.x s3)
      walk_at "mf"
      refine ⟨q, p3, t2, ws, rfl, hq3, by omega, hq2.ne n3, .inl (seqU e3), (fun z => by rw [z] at a3; cases a3), (by rw [a3.len]; decide), fun t4 H4 vo sx4 hq4 l4 u4 m4 => ?_⟩
      obtain ⟨dd, mdd, hdd⟩ := a3.mem m4
      have hfo : isFrD dd = false := by
        simp only [List.mem_cons, List.not_mem_nil, or_false] at mdd
        rcases mdd with rfl | rfl | rfl | rfl | rfl | rfl | rfl | rfl | rfl <;> rfl
      have hT := tabs_x hq3 sx4 hT
      have ho := hdd.go sx4
      have hn := hn.go sx4
      clear m4 mdd hdd a3 e3 n3 s3 hq2 hq3 hoq3 sx4
      walk_at "mf"
      refine ⟨q, vn, vo, dn, dd, t4, rfl, ⟨hq4, by omega, hT, hn, ho, hbn.1, hbn.2, hfo⟩, fun H5 t5 hT5 hq5 u5 hn5 ho5 => ?_⟩
      walk_at "mf"
      refine ⟨q, vn, vo, dn, dd, t5, rfl, ⟨hq5, by omega, hT5, hn5, ho5, hbn.1, hbn.2, hfo⟩, fun H6 t6 hT6 hq6 u6 => ?_⟩
      walk_at "mf"
      exact ⟨⟨_, _, _, rfl⟩, hT6, t6, hq6, by omega⟩
    · obtain ⟨⟨s2, s3, s4, rfl⟩, hT, t, hq, ht⟩ := hP
      walk_at "mf"
      exact k _
end Mf
namespace Mf
open PySem PySem.Spec PyProof.Rows L2
local macro_rules | `(tactic| walk_at "mf1") => `(tactic| first
  | ((with_reducible apply g_var); exact rfl)
  | with_reducible first
    | refine g_c ?_ | refine g_op ?_ | refine g_un ?_ | refine g_cb ?_ | refine g_cl ?_ | refine g_clX ?_ | refine g_mkR ?_ | refine g_clk ?_ | refine g_nil ?_ | refine g_cons ?_
    | refine g_tB ?_ | refine g_test ?_ | refine g_bl ?_ | refine g_and ?_ | refine g_or ?_ | refine g_not ?_ | refine g_andV ?_ | refine g_orV ?_ | refine g_notV ?_
    | refine g_if ?_ | refine g_ifS ?_ | refine g_seq ?_ | refine g_next ?_ | refine g_ret ?_ | refine g_drop ?_ | refine g_asg ?_ | refine g_name ?_ | refine g_sub ?_
    | refine g_int ?_ | refine g_intB ?_ | refine g_abs ?_ | refine g_I0 ?_ | refine g_addI ?_ | refine g_U ?_ | refine g_isNn ?_ | refine g_isNi ?_ | refine g_notN ?_ | refine g_notT1 ?_ | refine g_notT2 ?_ | refine g_notT3 ?_ | refine g_notT4 ?_ | refine g_notTb ?_ | refine g_notTi ?_ | refine g_eqI ?_ | refine g_neI ?_ | refine g_neSs ?_ | refine g_neS ?_ | refine g_eqS ?_
    | refine g_iteT ?_ | refine g_iteF ?_ | refine g_iteNT ?_ | refine g_iteNF ?_ | refine g_lst ?_ | refine g_tup ?_ | refine g_seqP ?_ | refine g_sl ?_ | refine g_noPart ?_ | refine g_part ?_ | refine g_yes ?_ | refine g_thenT ?_ | refine g_consG ?_ | refine g_nilG ?_ | refine g_ii ?_ | refine g_par ?_ | refine g_par3 ?_ | refine g_vv ?_ | refine g_vvv ?_ | refine g_reprB ?_ | refine g_lcL ?_ | refine g_lcR ?_
  | ((with_reducible refine g_mod ?_ ?_); (first | omega | decide))
  | ((with_reducible refine g_div ?_ ?_ ?_); (first | omega | decide); (first | assumption | decide))
  | ((with_reducible refine g_mulL ?_ ?_ ?_); (first | omega | decide); (first | omega | decide))
  | ((with_reducible refine g_mulR ?_ ?_ ?_); (first | omega | decide); (first | omega | decide))
  | ((with_reducible refine g_pow ?_ ?_ ?_ ?_); decide; decide; (first | omega | decide))
  | dsimp only)
local macro_rules | `(tactic| walk_at "mf1s") => `(tactic| first
  | ((with_reducible apply g_var); exact rfl)
  | with_reducible first
    | refine g_c ?_ | refine g_op ?_ | refine g_un ?_ | refine g_cb ?_ | refine g_cl ?_ | refine g_clX ?_ | refine g_mkR ?_ | refine g_clk ?_ | refine g_nil ?_ | refine g_cons ?_
    | refine g_tB ?_ | refine g_test ?_ | refine g_bl ?_ | refine g_and ?_ | refine g_or ?_ | refine g_not ?_ | refine g_andV ?_ | refine g_orV ?_ | refine g_notV ?_
    | refine g_if ?_ | refine g_ifS ?_ | refine g_next ?_ | refine g_ret ?_ | refine g_drop ?_ | refine g_asg ?_ | refine g_name ?_ | refine g_sub ?_
    | refine g_int ?_ | refine g_intB ?_ | refine g_abs ?_ | refine g_I0 ?_ | refine g_addI ?_ | refine g_U ?_ | refine g_isNn ?_ | refine g_isNi ?_ | refine g_notN ?_ | refine g_notT1 ?_ | refine g_notT2 ?_ | refine g_notT3 ?_ | refine g_notT4 ?_ | refine g_notTb ?_ | refine g_notTi ?_ | refine g_eqI ?_ | refine g_neI ?_ | refine g_neSs ?_ | refine g_neS ?_ | refine g_eqS ?_
    | refine g_iteT ?_ | refine g_iteF ?_ | refine g_iteNT ?_ | refine g_iteNF ?_ | refine g_lst ?_ | refine g_tup ?_ | refine g_seqP ?_ | refine g_sl ?_ | refine g_noPart ?_ | refine g_part ?_ | refine g_yes ?_ | refine g_thenT ?_ | refine g_consG ?_ | refine g_nilG ?_ | refine g_ii ?_ | refine g_par ?_ | refine g_par3 ?_ | refine g_vv ?_ | refine g_vvv ?_ | refine g_reprB ?_ | refine g_lcL ?_ | refine g_lcR ?_
  | ((with_reducible refine g_mod ?_ ?_); (first | omega | decide))
  | ((with_reducible refine g_div ?_ ?_ ?_); (first | omega | decide); (first | assumption | decide))
  | ((with_reducible refine g_mulL ?_ ?_ ?_); (first | omega | decide); (first | omega | decide))
  | ((with_reducible refine g_mulR ?_ ?_ ?_); (first | omega | decide); (first | omega | decide))
  | ((with_reducible refine g_pow ?_ ?_ ?_ ?_); decide; decide; (first | omega | decide))
  | dsimp only)
local macro_rules | `(tactic| walk_at "mfs") => `(tactic| repeat walk_at "mf1s")
local macro_rules | `(tactic| walk_at "mf") => `(tactic| repeat walk_at "mf1")
local macro_rules | `(tactic| walk_at "ed") => `(tactic| repeat (first
  | with_reducible first
    | exact eds_nil | apply eds_cons | exact ed_int | exact ed_bl | exact ed_non | apply ed_neg
  | ((with_reducible apply ed_str); decide)
  | ((with_reducible apply ed_var); (exact rfl); (first | assumption | exact Dq.int _))
  | ((with_reducible apply ed_dict0); assumption)
  | ((with_reducible apply ed_dict2); assumption)
  | ((with_reducible apply ed_tup); assumption)
  | ((with_reducible apply ed_lst); assumption)
  | (with_reducible apply ed_pow)
  | (with_reducible apply ed_mul)
  | assumption
  | (exact Dq.int _)
  | (exact ⟨by decide, by decide, by decide⟩)
  | (show List.length _ ≤ 1000; simp only [List.length_cons, List.length_nil]; decide)))
theorem ed_mk {P : Program} {w : World} {K : PySem.W.Frag} {h b : Heap} {mg : Str → Option Value} {x qn : Str} {st : Stmt} {fs : List Str} {C F f : Addr} {nm q : Str} {N : Addr} {bs : List Value} {sn : List Str} {sub : List Value} {ab : Bool} {col : Option Bool} {dd : Option Addr} {k0 k1 k2 k3 k5 : Option Value} {od an : Option Addr} {sl : Array (Option Value)} {oc kV dc pm cd ct : Value} (X : K.In h) (G : h.Ns mainGlobals mg)
    (a : PySem.W.nsIn K mainGlobals x = some (some (.ref C))) (lc : K.lookup C = some (excClassObj nm q C N bs (.ref F :: veT) true sn sub ab col dd k0 k1 k2 k3 k5 "ValueError.__new__"))
    (sa : PySem.W.findIn K (.ref C) "__setattr__" = some (some (.builtin "object.__setattr__"))) (ga : PySem.W.findIn K (.ref C) "__getattribute__" = some (some (.builtin "BaseException.__getattribute__"))) (gg : PySem.W.findIn K (.ref C) "__getattr__" = some none) (ha : PySem.W.findIn K (.ref C) "__class__" = some (some (.builtin "object.__class__")))
    (hn : PySem.W.specialIn K (.builtin "object.__class__") "__get__" = some (some (.builtin "getset_descriptor.__get__"))) (ht : PySem.W.takesIn K (.builtin "object.__class__") = some true) (kc : PySem.W.keepIn K (.ref C) = true) (no : ∀ f ∈ fs, PySem.W.findIn K (.ref C) f = some none)
    (i : PySem.W.findIn K (.ref C) "__init__" = some (some (.ref f))) (t : PySem.W.typeIn K (.ref f) = some (.type "function"))
    (l : K.lookup f = some ⟨oc, od, .func (PySem.W.fnOf "__init__" qn (defArgs st) (defBody st) (defScope st) .none kV dc pm an cd ct), sl⟩) (c : PySem.W.codeIn K cd qn = true) (k : PySem.W.keepIn K (.ref f) = true) : Ed ⟨P, w, K, mg, b⟩ x qn st C (.ref F :: veT) fs :=
  { mg := PySem.W.mg_of X G a, cl := ⟨nm, q, N, bs, sn, sub, ab, col, dd, k0, k1, k2, k3, k5, lc⟩, ve := rfl, ob := by rw [List.contains_cons]; exact (Bool.or_eq_true _ _).mpr (.inr rfl), be := by rw [List.contains_cons]; exact (Bool.or_eq_true _ _).mpr (.inr rfl), sa := sa, kC := kc, hg := ga, hk := gg, ha := ha, hn := hn, ht := ht, no := no, ex := ⟨f, _, i, t, fun_mk l c k⟩ }
theorem no1 {K : PySem.W.Frag} {C : Addr} {f : Str} (h : PySem.W.findIn K (.ref C) f = some none) : ∀ g ∈ [f], PySem.W.findIn K (.ref C) g = some none := fun g hg => by
  cases hg with
  | head => exact h
  | tail _ z => cases z
theorem no2 {K : PySem.W.Frag} {C : Addr} {f e : Str} (h : PySem.W.findIn K (.ref C) f = some none) (h2 : PySem.W.findIn K (.ref C) e = some none) : ∀ g ∈ [f, e], PySem.W.findIn K (.ref C) g = some none := fun g hg => by
  cases hg with
  | head => exact h
  | tail _ z => exact no1 h2 g z
theorem de_mk {P : Program} {w : World} {K : PySem.W.Frag} {h b : Heap} {mg : Str → Option Value} {x : Str} {st : Stmt} {f : Addr} {od an : Option Addr} {sl : Array (Option Value)} {oc kV dc pm cd ct : Value} (X : K.In h) (G : h.Ns mainGlobals mg)
    (a : PySem.W.nsIn K mainGlobals x = some (some (.ref f))) (l : K.lookup f = some ⟨oc, od, .func (PySem.W.fnOf x x (defArgs st) (defBody st) (defScope st) .none kV dc pm an cd ct), sl⟩)
    (c : PySem.W.codeIn K cd x = true) (k : PySem.W.keepIn K (.ref f) = true) : De ⟨P, w, K, mg, b⟩ x st := ⟨f, _, PySem.W.mg_of X G a, fun_mk l c k⟩
theorem end_mk {P : Program} {w : World} {K : PySem.W.Frag} {h : Heap} {mg : Str → Option Value} {fa cc1t PP1 cc2t PP2 : Addr} (hmg : mg "law" = some (.ref fa)) (T : ∀ base : Heap, Tx ⟨P, w, K, mg, base⟩)
    (hc1 : ∀ (f : Addr) (fd : FuncData) (oc : Value) (od : Option Addr) (osl : Array (Option Value)), mg "_law_polys_right" = some (.ref f) → K.lookup f = some ⟨oc, od, .func fd, osl⟩ → fd.code = .ref cc1t) (hc2 : ∀ (f : Addr) (fd : FuncData) (oc : Value) (od : Option Addr) (osl : Array (Option Value)), mg "_law_zeros_right" = some (.ref f) → K.lookup f = some ⟨oc, od, .func fd, osl⟩ → fd.code = .ref cc2t) (hPP : PP1 ≠ PP2) :
    ∃ fd : FuncData, (∀ (s : Shared) (u : Value), BindsTo s fd ⟨[u], []⟩ [("script", u)]) ∧ ∀ base : Heap, K.In base → base.Ns mainGlobals mg → LamX.TabB base mg cc1t PP1 → LamX.TabB base mg cc2t PP2 → FnG P w K mg base CX0 11 fa fd ["script"] (sp_law PP1 PP2 K) := by
  obtain ⟨f, fd, hm, F⟩ := (T h).d_law.ex
  have e : f = fa := by
    have e := hm.symm.trans hmg
    cases e
    rfl
  subst e
  refine ⟨fd, fun s u => ?_, fun base _ _ hb1 hb2 => ?_⟩
  · obtain ⟨oc, od, kV, doc, pm, an, cdv, ct, osl, rfl, lk, hcd⟩ := F.ex
    exact .of_eq (pl_law kV doc pm an cdv ct [u] rfl)
  · obtain ⟨f2, fd2, F2, hm2, W2⟩ := (ok_law ⟨P, w, K, mg, base⟩ (T base) ⟨hc1, hb1⟩ ⟨hc2, hb2⟩ hPP).ex
    have e2 : f2 = f := by
      have e := hm2.symm.trans hm
      cases e
      rfl
    subst e2
    obtain ⟨oc, od, kV, doc, pm, an, cdv, ct, osl, rfl, lk, hcd⟩ := F.ex
    obtain ⟨oc', od', kV', doc', pm', an', cdv', ct', osl', rfl, lk', hcd'⟩ := W2.ex
    rw [lk] at lk'
    cases lk'
    exact F2
theorem all_mk {P : Program} {w : World} {K : PySem.W.Frag} {h : Heap} {mg : Str → Option Value} {fa : Addr} (X : K.In h) (G : h.Ns mainGlobals mg) (hmg : mg "law" = some (.ref fa))
    {f0 f1 f2 f3 f4 f5 f6 f7 f8 f9 f10 f11 f12 f13 f14 f15 f16 f17 f18 f19 f20 f21 f22 f23 f24 f25 f26 f27 f28 f29 f30 f31 f32 f33 f34 f35 f36 f37 f38 f39 f40 f41 f42 f43 f44 f45 f46 f47 f48 f49 f50 f51 f52 f53 f54 f55 f56 f57 f58 f59 : Addr} {od0 an0 od1 an1 od2 an2 od3 an3 od4 an4 od5 an5 od6 an6 od7 an7 od8 an8 od9 an9 od10 an10 od11 an11 od12 an12 od13 an13 od14 an14 od15 an15 od16 an16 od17 an17 od18 an18 od19 an19 od20 an20 od21 an21 od22 an22 od23 an23 od24 an24 od25 an25 od26 an26 od27 an27 od28 an28 od29 an29 od30 an30 od31 an31 od32 an32 od33 an33 od34 an34 od35 an35 od36 an36 od37 an37 od38 an38 od39 an39 od40 an40 od41 an41 od42 an42 od43 an43 od44 an44 od45 an45 od46 an46 od47 an47 od48 an48 od49 an49 od50 an50 od51 an51 od52 an52 od53 an53 od54 an54 od55 an55 od56 an56 od57 an57 od58 an58 od59 an59 : Option Addr} {sl0 sl1 sl2 sl3 sl4 sl5 sl6 sl7 sl8 sl9 sl10 sl11 sl12 sl13 sl14 sl15 sl16 sl17 sl18 sl19 sl20 sl21 sl22 sl23 sl24 sl25 sl26 sl27 sl28 sl29 sl30 sl31 sl32 sl33 sl34 sl35 sl36 sl37 sl38 sl39 sl40 sl41 sl42 sl43 sl44 sl45 sl46 sl47 sl48 sl49 sl50 sl51 sl52 sl53 sl54 sl55 sl56 sl57 sl58 sl59 : Array (Option Value)} {oc0 kV0 dc0 pm0 cd0 ct0 oc1 kV1 dc1 pm1 cd1 ct1 oc2 kV2 dc2 pm2 cd2 ct2 oc3 kV3 dc3 pm3 cd3 ct3 oc4 kV4 dc4 pm4 cd4 ct4 oc5 kV5 dc5 pm5 cd5 ct5 oc6 kV6 dc6 pm6 cd6 ct6 oc7 kV7 dc7 pm7 cd7 ct7 oc8 kV8 dc8 pm8 cd8 ct8 oc9 kV9 dc9 pm9 cd9 ct9 oc10 kV10 dc10 pm10 cd10 ct10 oc11 kV11 dc11 pm11 cd11 ct11 oc12 kV12 dc12 pm12 cd12 ct12 oc13 kV13 dc13 pm13 cd13 ct13 oc14 kV14 dc14 pm14 cd14 ct14 oc15 kV15 dc15 pm15 cd15 ct15 oc16 kV16 dc16 pm16 cd16 ct16 oc17 kV17 dc17 pm17 cd17 ct17 oc18 kV18 dc18 pm18 cd18 ct18 oc19 kV19 dc19 pm19 cd19 ct19 oc20 kV20 dc20 pm20 cd20 ct20 oc21 kV21 dc21 pm21 cd21 ct21 oc22 kV22 dc22 pm22 cd22 ct22 oc23 kV23 dc23 pm23 cd23 ct23 oc24 kV24 dc24 pm24 cd24 ct24 oc25 kV25 dc25 pm25 cd25 ct25 oc26 kV26 dc26 pm26 cd26 ct26 oc27 kV27 dc27 pm27 cd27 ct27 oc28 kV28 dc28 pm28 cd28 ct28 oc29 kV29 dc29 pm29 cd29 ct29 oc30 kV30 dc30 pm30 cd30 ct30 oc31 kV31 dc31 pm31 cd31 ct31 oc32 kV32 dc32 pm32 cd32 ct32 oc33 kV33 dc33 pm33 cd33 ct33 oc34 kV34 dc34 pm34 cd34 ct34 oc35 kV35 dc35 pm35 cd35 ct35 oc36 kV36 dc36 pm36 cd36 ct36 oc37 kV37 dc37 pm37 cd37 ct37 oc38 kV38 dc38 pm38 cd38 ct38 oc39 kV39 dc39 pm39 cd39 ct39 oc40 kV40 dc40 pm40 cd40 ct40 oc41 kV41 dc41 pm41 cd41 ct41 oc42 kV42 dc42 pm42 cd42 ct42 oc43 kV43 dc43 pm43 cd43 ct43 oc44 kV44 dc44 pm44 cd44 ct44 oc45 kV45 dc45 pm45 cd45 ct45 oc46 kV46 dc46 pm46 cd46 ct46 oc47 kV47 dc47 pm47 cd47 ct47 oc48 kV48 dc48 pm48 cd48 ct48 oc49 kV49 dc49 pm49 cd49 ct49 oc50 kV50 dc50 pm50 cd50 ct50 oc51 kV51 dc51 pm51 cd51 ct51 oc52 kV52 dc52 pm52 cd52 ct52 oc53 kV53 dc53 pm53 cd53 ct53 oc54 kV54 dc54 pm54 cd54 ct54 oc55 kV55 dc55 pm55 cd55 ct55 oc56 kV56 dc56 pm56 cd56 ct56 oc57 kV57 dc57 pm57 cd57 ct57 oc58 kV58 dc58 pm58 cd58 ct58 oc59 kV59 dc59 pm59 cd59 ct59 : Value}
    {cc1t PP1 cc2t PP2 fi0 fi1 fi2 fi3 cc0 cc1 cc2 cc3 cc4 : Addr} {nm0 qq0 : Str} {NN0 : Addr} {bs0 : List Value} {sn0 : List Str} {sb0 : List Value} {ab0 : Bool} {cl0 : Option Bool} {dD0 : Option Addr} {ka0 kb0 kc0 kd0 ke0 : Option Value} {oD0 aN0 : Option Addr} {sL0 : Array (Option Value)} {oC0 kV0x dC0 pM0 cD0 cT0 : Value} {nm1 qq1 : Str} {NN1 : Addr} {bs1 : List Value} {sn1 : List Str} {sb1 : List Value} {ab1 : Bool} {cl1 : Option Bool} {dD1 : Option Addr} {ka1 kb1 kc1 kd1 ke1 : Option Value} {oD1 aN1 : Option Addr} {sL1 : Array (Option Value)} {oC1 kV1x dC1 pM1 cD1 cT1 : Value} {nm2 qq2 : Str} {NN2 : Addr} {bs2 : List Value} {sn2 : List Str} {sb2 : List Value} {ab2 : Bool} {cl2 : Option Bool} {dD2 : Option Addr} {ka2 kb2 kc2 kd2 ke2 : Option Value} {oD2 aN2 : Option Addr} {sL2 : Array (Option Value)} {oC2 kV2x dC2 pM2 cD2 cT2 : Value} {nm3 qq3 : Str} {NN3 : Addr} {bs3 : List Value} {sn3 : List Str} {sb3 : List Value} {ab3 : Bool} {cl3 : Option Bool} {dD3 : Option Addr} {ka3 kb3 kc3 kd3 ke3 : Option Value} {oD3 aN3 : Option Addr} {sL3 : Array (Option Value)} {oC3 kV3x dC3 pM3 cD3 cT3 : Value} {nm4 qq4 : Str} {NN4 : Addr} {bs4 : List Value} {sn4 : List Str} {sb4 : List Value} {ab4 : Bool} {cl4 : Option Bool} {dD4 : Option Addr} {ka4 kb4 kc4 kd4 ke4 : Option Value} 
    (a0 : PySem.W.nsIn K mainGlobals "is_integer" = some (some (.ref f0))) (l0 : K.lookup f0 = some ⟨oc0, od0, .func (PySem.W.fnOf "is_integer" "is_integer" (defArgs s_is_integer) (defBody s_is_integer) (defScope s_is_integer) .none kV0 dc0 pm0 an0 cd0 ct0), sl0⟩) (c0 : PySem.W.codeIn K cd0 "is_integer" = true) (k0 : PySem.W.keepIn K (.ref f0) = true)
    (a1 : PySem.W.nsIn K mainGlobals "is_within" = some (some (.ref f1))) (l1 : K.lookup f1 = some ⟨oc1, od1, .func (PySem.W.fnOf "is_within" "is_within" (defArgs s_is_within) (defBody s_is_within) (defScope s_is_within) .none kV1 dc1 pm1 an1 cd1 ct1), sl1⟩) (c1 : PySem.W.codeIn K cd1 "is_within" = true) (k1 : PySem.W.keepIn K (.ref f1) = true)
    (a2 : PySem.W.nsIn K mainGlobals "is_list" = some (some (.ref f2))) (l2 : K.lookup f2 = some ⟨oc2, od2, .func (PySem.W.fnOf "is_list" "is_list" (defArgs s_is_list) (defBody s_is_list) (defScope s_is_list) .none kV2 dc2 pm2 an2 cd2 ct2), sl2⟩) (c2 : PySem.W.codeIn K cd2 "is_list" = true) (k2 : PySem.W.keepIn K (.ref f2) = true)
    (a3 : PySem.W.nsIn K mainGlobals "is_fraction" = some (some (.ref f3))) (l3 : K.lookup f3 = some ⟨oc3, od3, .func (PySem.W.fnOf "is_fraction" "is_fraction" (defArgs s_is_fraction) (defBody s_is_fraction) (defScope s_is_fraction) .none kV3 dc3 pm3 an3 cd3 ct3), sl3⟩) (c3 : PySem.W.codeIn K cd3 "is_fraction" = true) (k3 : PySem.W.keepIn K (.ref f3) = true)
    (a4 : PySem.W.nsIn K mainGlobals "is_place" = some (some (.ref f4))) (l4 : K.lookup f4 = some ⟨oc4, od4, .func (PySem.W.fnOf "is_place" "is_place" (defArgs s_is_place) (defBody s_is_place) (defScope s_is_place) .none kV4 dc4 pm4 an4 cd4 ct4), sl4⟩) (c4 : PySem.W.codeIn K cd4 "is_place" = true) (k4 : PySem.W.keepIn K (.ref f4) = true)
    (a5 : PySem.W.nsIn K mainGlobals "reduced" = some (some (.ref f5))) (l5 : K.lookup f5 = some ⟨oc5, od5, .func (PySem.W.fnOf "reduced" "reduced" (defArgs s_reduced) (defBody s_reduced) (defScope s_reduced) .none kV5 dc5 pm5 an5 cd5 ct5), sl5⟩) (c5 : PySem.W.codeIn K cd5 "reduced" = true) (k5 : PySem.W.keepIn K (.ref f5) = true)
    (a6 : PySem.W.nsIn K mainGlobals "read_fraction" = some (some (.ref f6))) (l6 : K.lookup f6 = some ⟨oc6, od6, .func (PySem.W.fnOf "read_fraction" "read_fraction" (defArgs s_read_fraction) (defBody s_read_fraction) (defScope s_read_fraction) .none kV6 dc6 pm6 an6 cd6 ct6), sl6⟩) (c6 : PySem.W.codeIn K cd6 "read_fraction" = true) (k6 : PySem.W.keepIn K (.ref f6) = true)
    (a7 : PySem.W.nsIn K mainGlobals "over_one_down" = some (some (.ref f7))) (l7 : K.lookup f7 = some ⟨oc7, od7, .func (PySem.W.fnOf "over_one_down" "over_one_down" (defArgs s_over_one_down) (defBody s_over_one_down) (defScope s_over_one_down) .none kV7 dc7 pm7 an7 cd7 ct7), sl7⟩) (c7 : PySem.W.codeIn K cd7 "over_one_down" = true) (k7 : PySem.W.keepIn K (.ref f7) = true)
    (a8 : PySem.W.nsIn K mainGlobals "fraction_of" = some (some (.ref f8))) (l8 : K.lookup f8 = some ⟨oc8, od8, .func (PySem.W.fnOf "fraction_of" "fraction_of" (defArgs s_fraction_of) (defBody s_fraction_of) (defScope s_fraction_of) .none kV8 dc8 pm8 an8 cd8 ct8), sl8⟩) (c8 : PySem.W.codeIn K cd8 "fraction_of" = true) (k8 : PySem.W.keepIn K (.ref f8) = true)
    (a9 : PySem.W.nsIn K mainGlobals "added" = some (some (.ref f9))) (l9 : K.lookup f9 = some ⟨oc9, od9, .func (PySem.W.fnOf "added" "added" (defArgs s_added) (defBody s_added) (defScope s_added) .none kV9 dc9 pm9 an9 cd9 ct9), sl9⟩) (c9 : PySem.W.codeIn K cd9 "added" = true) (k9 : PySem.W.keepIn K (.ref f9) = true)
    (a10 : PySem.W.nsIn K mainGlobals "taken" = some (some (.ref f10))) (l10 : K.lookup f10 = some ⟨oc10, od10, .func (PySem.W.fnOf "taken" "taken" (defArgs s_taken) (defBody s_taken) (defScope s_taken) .none kV10 dc10 pm10 an10 cd10 ct10), sl10⟩) (c10 : PySem.W.codeIn K cd10 "taken" = true) (k10 : PySem.W.keepIn K (.ref f10) = true)
    (a11 : PySem.W.nsIn K mainGlobals "multiplied" = some (some (.ref f11))) (l11 : K.lookup f11 = some ⟨oc11, od11, .func (PySem.W.fnOf "multiplied" "multiplied" (defArgs s_multiplied) (defBody s_multiplied) (defScope s_multiplied) .none kV11 dc11 pm11 an11 cd11 ct11), sl11⟩) (c11 : PySem.W.codeIn K cd11 "multiplied" = true) (k11 : PySem.W.keepIn K (.ref f11) = true)
    (a12 : PySem.W.nsIn K mainGlobals "divided" = some (some (.ref f12))) (l12 : K.lookup f12 = some ⟨oc12, od12, .func (PySem.W.fnOf "divided" "divided" (defArgs s_divided) (defBody s_divided) (defScope s_divided) .none kV12 dc12 pm12 an12 cd12 ct12), sl12⟩) (c12 : PySem.W.codeIn K cd12 "divided" = true) (k12 : PySem.W.keepIn K (.ref f12) = true)
    (a13 : PySem.W.nsIn K mainGlobals "sign_of" = some (some (.ref f13))) (l13 : K.lookup f13 = some ⟨oc13, od13, .func (PySem.W.fnOf "sign_of" "sign_of" (defArgs s_sign_of) (defBody s_sign_of) (defScope s_sign_of) .none kV13 dc13 pm13 an13 cd13 ct13), sl13⟩) (c13 : PySem.W.codeIn K cd13 "sign_of" = true) (k13 : PySem.W.keepIn K (.ref f13) = true)
    (a14 : PySem.W.nsIn K mainGlobals "cut" = some (some (.ref f14))) (l14 : K.lookup f14 = some ⟨oc14, od14, .func (PySem.W.fnOf "cut" "cut" (defArgs s_cut) (defBody s_cut) (defScope s_cut) .none kV14 dc14 pm14 an14 cd14 ct14), sl14⟩) (c14 : PySem.W.codeIn K cd14 "cut" = true) (k14 : PySem.W.keepIn K (.ref f14) = true)
    (a15 : PySem.W.nsIn K mainGlobals "times_whole" = some (some (.ref f15))) (l15 : K.lookup f15 = some ⟨oc15, od15, .func (PySem.W.fnOf "times_whole" "times_whole" (defArgs s_times_whole) (defBody s_times_whole) (defScope s_times_whole) .none kV15 dc15 pm15 an15 cd15 ct15), sl15⟩) (c15 : PySem.W.codeIn K cd15 "times_whole" = true) (k15 : PySem.W.keepIn K (.ref f15) = true)
    (a16 : PySem.W.nsIn K mainGlobals "powers_of" = some (some (.ref f16))) (l16 : K.lookup f16 = some ⟨oc16, od16, .func (PySem.W.fnOf "powers_of" "powers_of" (defArgs s_powers_of) (defBody s_powers_of) (defScope s_powers_of) .none kV16 dc16 pm16 an16 cd16 ct16), sl16⟩) (c16 : PySem.W.codeIn K cd16 "powers_of" = true) (k16 : PySem.W.keepIn K (.ref f16) = true)
    (a17 : PySem.W.nsIn K mainGlobals "scaled" = some (some (.ref f17))) (l17 : K.lookup f17 = some ⟨oc17, od17, .func (PySem.W.fnOf "scaled" "scaled" (defArgs s_scaled) (defBody s_scaled) (defScope s_scaled) .none kV17 dc17 pm17 an17 cd17 ct17), sl17⟩) (c17 : PySem.W.codeIn K cd17 "scaled" = true) (k17 : PySem.W.keepIn K (.ref f17) = true)
    (a18 : PySem.W.nsIn K mainGlobals "shifted" = some (some (.ref f18))) (l18 : K.lookup f18 = some ⟨oc18, od18, .func (PySem.W.fnOf "shifted" "shifted" (defArgs s_shifted) (defBody s_shifted) (defScope s_shifted) .none kV18 dc18 pm18 an18 cd18 ct18), sl18⟩) (c18 : PySem.W.codeIn K cd18 "shifted" = true) (k18 : PySem.W.keepIn K (.ref f18) = true)
    (a19 : PySem.W.nsIn K mainGlobals "value_whole" = some (some (.ref f19))) (l19 : K.lookup f19 = some ⟨oc19, od19, .func (PySem.W.fnOf "value_whole" "value_whole" (defArgs s_value_whole) (defBody s_value_whole) (defScope s_value_whole) .none kV19 dc19 pm19 an19 cd19 ct19), sl19⟩) (c19 : PySem.W.codeIn K cd19 "value_whole" = true) (k19 : PySem.W.keepIn K (.ref f19) = true)
    (a20 : PySem.W.nsIn K mainGlobals "content_of" = some (some (.ref f20))) (l20 : K.lookup f20 = some ⟨oc20, od20, .func (PySem.W.fnOf "content_of" "content_of" (defArgs s_content_of) (defBody s_content_of) (defScope s_content_of) .none kV20 dc20 pm20 an20 cd20 ct20), sl20⟩) (c20 : PySem.W.codeIn K cd20 "content_of" = true) (k20 : PySem.W.keepIn K (.ref f20) = true)
    (a21 : PySem.W.nsIn K mainGlobals "rest_whole" = some (some (.ref f21))) (l21 : K.lookup f21 = some ⟨oc21, od21, .func (PySem.W.fnOf "rest_whole" "rest_whole" (defArgs s_rest_whole) (defBody s_rest_whole) (defScope s_rest_whole) .none kV21 dc21 pm21 an21 cd21 ct21), sl21⟩) (c21 : PySem.W.codeIn K cd21 "rest_whole" = true) (k21 : PySem.W.keepIn K (.ref f21) = true)
    (a22 : PySem.W.nsIn K mainGlobals "quotient_whole" = some (some (.ref f22))) (l22 : K.lookup f22 = some ⟨oc22, od22, .func (PySem.W.fnOf "quotient_whole" "quotient_whole" (defArgs s_quotient_whole) (defBody s_quotient_whole) (defScope s_quotient_whole) .none kV22 dc22 pm22 an22 cd22 ct22), sl22⟩) (c22 : PySem.W.codeIn K cd22 "quotient_whole" = true) (k22 : PySem.W.keepIn K (.ref f22) = true)
    (a23 : PySem.W.nsIn K mainGlobals "trimmed" = some (some (.ref f23))) (l23 : K.lookup f23 = some ⟨oc23, od23, .func (PySem.W.fnOf "trimmed" "trimmed" (defArgs s_trimmed) (defBody s_trimmed) (defScope s_trimmed) .none kV23 dc23 pm23 an23 cd23 ct23), sl23⟩) (c23 : PySem.W.codeIn K cd23 "trimmed" = true) (k23 : PySem.W.keepIn K (.ref f23) = true)
    (a24 : PySem.W.nsIn K mainGlobals "is_poly" = some (some (.ref f24))) (l24 : K.lookup f24 = some ⟨oc24, od24, .func (PySem.W.fnOf "is_poly" "is_poly" (defArgs s_is_poly) (defBody s_is_poly) (defScope s_is_poly) .none kV24 dc24 pm24 an24 cd24 ct24), sl24⟩) (c24 : PySem.W.codeIn K cd24 "is_poly" = true) (k24 : PySem.W.keepIn K (.ref f24) = true)
    (a25 : PySem.W.nsIn K mainGlobals "read_poly" = some (some (.ref f25))) (l25 : K.lookup f25 = some ⟨oc25, od25, .func (PySem.W.fnOf "read_poly" "read_poly" (defArgs s_read_poly) (defBody s_read_poly) (defScope s_read_poly) .none kV25 dc25 pm25 an25 cd25 ct25), sl25⟩) (c25 : PySem.W.codeIn K cd25 "read_poly" = true) (k25 : PySem.W.keepIn K (.ref f25) = true)
    (a26 : PySem.W.nsIn K mainGlobals "poly_of" = some (some (.ref f26))) (l26 : K.lookup f26 = some ⟨oc26, od26, .func (PySem.W.fnOf "poly_of" "poly_of" (defArgs s_poly_of) (defBody s_poly_of) (defScope s_poly_of) .none kV26 dc26 pm26 an26 cd26 ct26), sl26⟩) (c26 : PySem.W.codeIn K cd26 "poly_of" = true) (k26 : PySem.W.keepIn K (.ref f26) = true)
    (a27 : PySem.W.nsIn K mainGlobals "value_at" = some (some (.ref f27))) (l27 : K.lookup f27 = some ⟨oc27, od27, .func (PySem.W.fnOf "value_at" "value_at" (defArgs s_value_at) (defBody s_value_at) (defScope s_value_at) .none kV27 dc27 pm27 an27 cd27 ct27), sl27⟩) (c27 : PySem.W.codeIn K cd27 "value_at" = true) (k27 : PySem.W.keepIn K (.ref f27) = true)
    (a28 : PySem.W.nsIn K mainGlobals "poly_sum" = some (some (.ref f28))) (l28 : K.lookup f28 = some ⟨oc28, od28, .func (PySem.W.fnOf "poly_sum" "poly_sum" (defArgs s_poly_sum) (defBody s_poly_sum) (defScope s_poly_sum) .none kV28 dc28 pm28 an28 cd28 ct28), sl28⟩) (c28 : PySem.W.codeIn K cd28 "poly_sum" = true) (k28 : PySem.W.keepIn K (.ref f28) = true)
    (a29 : PySem.W.nsIn K mainGlobals "poly_times" = some (some (.ref f29))) (l29 : K.lookup f29 = some ⟨oc29, od29, .func (PySem.W.fnOf "poly_times" "poly_times" (defArgs s_poly_times) (defBody s_poly_times) (defScope s_poly_times) .none kV29 dc29 pm29 an29 cd29 ct29), sl29⟩) (c29 : PySem.W.codeIn K cd29 "poly_times" = true) (k29 : PySem.W.keepIn K (.ref f29) = true)
    (a30 : PySem.W.nsIn K mainGlobals "parted" = some (some (.ref f30))) (l30 : K.lookup f30 = some ⟨oc30, od30, .func (PySem.W.fnOf "parted" "parted" (defArgs s_parted) (defBody s_parted) (defScope s_parted) .none kV30 dc30 pm30 an30 cd30 ct30), sl30⟩) (c30 : PySem.W.codeIn K cd30 "parted" = true) (k30 : PySem.W.keepIn K (.ref f30) = true)
    (a31 : PySem.W.nsIn K mainGlobals "poly_parted" = some (some (.ref f31))) (l31 : K.lookup f31 = some ⟨oc31, od31, .func (PySem.W.fnOf "poly_parted" "poly_parted" (defArgs s_poly_parted) (defBody s_poly_parted) (defScope s_poly_parted) .none kV31 dc31 pm31 an31 cd31 ct31), sl31⟩) (c31 : PySem.W.codeIn K cd31 "poly_parted" = true) (k31 : PySem.W.keepIn K (.ref f31) = true)
    (a32 : PySem.W.nsIn K mainGlobals "slope_of" = some (some (.ref f32))) (l32 : K.lookup f32 = some ⟨oc32, od32, .func (PySem.W.fnOf "slope_of" "slope_of" (defArgs s_slope_of) (defBody s_slope_of) (defScope s_slope_of) .none kV32 dc32 pm32 an32 cd32 ct32), sl32⟩) (c32 : PySem.W.codeIn K cd32 "slope_of" = true) (k32 : PySem.W.keepIn K (.ref f32) = true)
    (a33 : PySem.W.nsIn K mainGlobals "read_points" = some (some (.ref f33))) (l33 : K.lookup f33 = some ⟨oc33, od33, .func (PySem.W.fnOf "read_points" "read_points" (defArgs s_read_points) (defBody s_read_points) (defScope s_read_points) .none kV33 dc33 pm33 an33 cd33 ct33), sl33⟩) (c33 : PySem.W.codeIn K cd33 "read_points" = true) (k33 : PySem.W.keepIn K (.ref f33) = true)
    (a34 : PySem.W.nsIn K mainGlobals "times_factor" = some (some (.ref f34))) (l34 : K.lookup f34 = some ⟨oc34, od34, .func (PySem.W.fnOf "times_factor" "times_factor" (defArgs s_times_factor) (defBody s_times_factor) (defScope s_times_factor) .none kV34 dc34 pm34 an34 cd34 ct34), sl34⟩) (c34 : PySem.W.codeIn K cd34 "times_factor" = true) (k34 : PySem.W.keepIn K (.ref f34) = true)
    (a35 : PySem.W.nsIn K mainGlobals "without_factor" = some (some (.ref f35))) (l35 : K.lookup f35 = some ⟨oc35, od35, .func (PySem.W.fnOf "without_factor" "without_factor" (defArgs s_without_factor) (defBody s_without_factor) (defScope s_without_factor) .none kV35 dc35 pm35 an35 cd35 ct35), sl35⟩) (c35 : PySem.W.codeIn K cd35 "without_factor" = true) (k35 : PySem.W.keepIn K (.ref f35) = true)
    (a36 : PySem.W.nsIn K mainGlobals "share_at" = some (some (.ref f36))) (l36 : K.lookup f36 = some ⟨oc36, od36, .func (PySem.W.fnOf "share_at" "share_at" (defArgs s_share_at) (defBody s_share_at) (defScope s_share_at) .none kV36 dc36 pm36 an36 cd36 ct36), sl36⟩) (c36 : PySem.W.codeIn K cd36 "share_at" = true) (k36 : PySem.W.keepIn K (.ref f36) = true)
    (a37 : PySem.W.nsIn K mainGlobals "poly_through" = some (some (.ref f37))) (l37 : K.lookup f37 = some ⟨oc37, od37, .func (PySem.W.fnOf "poly_through" "poly_through" (defArgs s_poly_through) (defBody s_poly_through) (defScope s_poly_through) .none kV37 dc37 pm37 an37 cd37 ct37), sl37⟩) (c37 : PySem.W.codeIn K cd37 "poly_through" = true) (k37 : PySem.W.keepIn K (.ref f37) = true)
    (a38 : PySem.W.nsIn K mainGlobals "row_of" = some (some (.ref f38))) (l38 : K.lookup f38 = some ⟨oc38, od38, .func (PySem.W.fnOf "row_of" "row_of" (defArgs s_row_of) (defBody s_row_of) (defScope s_row_of) .none kV38 dc38 pm38 an38 cd38 ct38), sl38⟩) (c38 : PySem.W.codeIn K cd38 "row_of" = true) (k38 : PySem.W.keepIn K (.ref f38) = true)
    (a39 : PySem.W.nsIn K mainGlobals "times_scale" = some (some (.ref f39))) (l39 : K.lookup f39 = some ⟨oc39, od39, .func (PySem.W.fnOf "times_scale" "times_scale" (defArgs s_times_scale) (defBody s_times_scale) (defScope s_times_scale) .none kV39 dc39 pm39 an39 cd39 ct39), sl39⟩) (c39 : PySem.W.codeIn K cd39 "times_scale" = true) (k39 : PySem.W.keepIn K (.ref f39) = true)
    (a40 : PySem.W.nsIn K mainGlobals "rests_of" = some (some (.ref f40))) (l40 : K.lookup f40 = some ⟨oc40, od40, .func (PySem.W.fnOf "rests_of" "rests_of" (defArgs s_rests_of) (defBody s_rests_of) (defScope s_rests_of) .none kV40 dc40 pm40 an40 cd40 ct40), sl40⟩) (c40 : PySem.W.codeIn K cd40 "rests_of" = true) (k40 : PySem.W.keepIn K (.ref f40) = true)
    (a41 : PySem.W.nsIn K mainGlobals "counting_row" = some (some (.ref f41))) (l41 : K.lookup f41 = some ⟨oc41, od41, .func (PySem.W.fnOf "counting_row" "counting_row" (defArgs s_counting_row) (defBody s_counting_row) (defScope s_counting_row) .none kV41 dc41 pm41 an41 cd41 ct41), sl41⟩) (c41 : PySem.W.codeIn K cd41 "counting_row" = true) (k41 : PySem.W.keepIn K (.ref f41) = true)
    (a42 : PySem.W.nsIn K mainGlobals "changes_at" = some (some (.ref f42))) (l42 : K.lookup f42 = some ⟨oc42, od42, .func (PySem.W.fnOf "changes_at" "changes_at" (defArgs s_changes_at) (defBody s_changes_at) (defScope s_changes_at) .none kV42 dc42 pm42 an42 cd42 ct42), sl42⟩) (c42 : PySem.W.codeIn K cd42 "changes_at" = true) (k42 : PySem.W.keepIn K (.ref f42) = true)
    (a43 : PySem.W.nsIn K mainGlobals "zeros_within" = some (some (.ref f43))) (l43 : K.lookup f43 = some ⟨oc43, od43, .func (PySem.W.fnOf "zeros_within" "zeros_within" (defArgs s_zeros_within) (defBody s_zeros_within) (defScope s_zeros_within) .none kV43 dc43 pm43 an43 cd43 ct43), sl43⟩) (c43 : PySem.W.codeIn K cd43 "zeros_within" = true) (k43 : PySem.W.keepIn K (.ref f43) = true)
    (a44 : PySem.W.nsIn K mainGlobals "first_span" = some (some (.ref f44))) (l44 : K.lookup f44 = some ⟨oc44, od44, .func (PySem.W.fnOf "first_span" "first_span" (defArgs s_first_span) (defBody s_first_span) (defScope s_first_span) .none kV44 dc44 pm44 an44 cd44 ct44), sl44⟩) (c44 : PySem.W.codeIn K cd44 "first_span" = true) (k44 : PySem.W.keepIn K (.ref f44) = true)
    (a45 : PySem.W.nsIn K mainGlobals "as_unit" = some (some (.ref f45))) (l45 : K.lookup f45 = some ⟨oc45, od45, .func (PySem.W.fnOf "as_unit" "as_unit" (defArgs s_as_unit) (defBody s_as_unit) (defScope s_as_unit) .none kV45 dc45 pm45 an45 cd45 ct45), sl45⟩) (c45 : PySem.W.codeIn K cd45 "as_unit" = true) (k45 : PySem.W.keepIn K (.ref f45) = true)
    (a46 : PySem.W.nsIn K mainGlobals "is_plainly_above" = some (some (.ref f46))) (l46 : K.lookup f46 = some ⟨oc46, od46, .func (PySem.W.fnOf "is_plainly_above" "is_plainly_above" (defArgs s_is_plainly_above) (defBody s_is_plainly_above) (defScope s_is_plainly_above) .none kV46 dc46 pm46 an46 cd46 ct46), sl46⟩) (c46 : PySem.W.codeIn K cd46 "is_plainly_above" = true) (k46 : PySem.W.keepIn K (.ref f46) = true)
    (a47 : PySem.W.nsIn K mainGlobals "is_above_on" = some (some (.ref f47))) (l47 : K.lookup f47 = some ⟨oc47, od47, .func (PySem.W.fnOf "is_above_on" "is_above_on" (defArgs s_is_above_on) (defBody s_is_above_on) (defScope s_is_above_on) .none kV47 dc47 pm47 an47 cd47 ct47), sl47⟩) (c47 : PySem.W.codeIn K cd47 "is_above_on" = true) (k47 : PySem.W.keepIn K (.ref f47) = true)
    (a48 : PySem.W.nsIn K mainGlobals "want_bounds" = some (some (.ref f48))) (l48 : K.lookup f48 = some ⟨oc48, od48, .func (PySem.W.fnOf "want_bounds" "want_bounds" (defArgs s_want_bounds) (defBody s_want_bounds) (defScope s_want_bounds) .none kV48 dc48 pm48 an48 cd48 ct48), sl48⟩) (c48 : PySem.W.codeIn K cd48 "want_bounds" = true) (k48 : PySem.W.keepIn K (.ref f48) = true)
    (a49 : PySem.W.nsIn K mainGlobals "want_stretch" = some (some (.ref f49))) (l49 : K.lookup f49 = some ⟨oc49, od49, .func (PySem.W.fnOf "want_stretch" "want_stretch" (defArgs s_want_stretch) (defBody s_want_stretch) (defScope s_want_stretch) .none kV49 dc49 pm49 an49 cd49 ct49), sl49⟩) (c49 : PySem.W.codeIn K cd49 "want_stretch" = true) (k49 : PySem.W.keepIn K (.ref f49) = true)
    (a50 : PySem.W.nsIn K mainGlobals "zeros_in" = some (some (.ref f50))) (l50 : K.lookup f50 = some ⟨oc50, od50, .func (PySem.W.fnOf "zeros_in" "zeros_in" (defArgs s_zeros_in) (defBody s_zeros_in) (defScope s_zeros_in) .none kV50 dc50 pm50 an50 cd50 ct50), sl50⟩) (c50 : PySem.W.codeIn K cd50 "zeros_in" = true) (k50 : PySem.W.keepIn K (.ref f50) = true)
    (a51 : PySem.W.nsIn K mainGlobals "first_zero" = some (some (.ref f51))) (l51 : K.lookup f51 = some ⟨oc51, od51, .func (PySem.W.fnOf "first_zero" "first_zero" (defArgs s_first_zero) (defBody s_first_zero) (defScope s_first_zero) .none kV51 dc51 pm51 an51 cd51 ct51), sl51⟩) (c51 : PySem.W.codeIn K cd51 "first_zero" = true) (k51 : PySem.W.keepIn K (.ref f51) = true)
    (a52 : PySem.W.nsIn K mainGlobals "is_above" = some (some (.ref f52))) (l52 : K.lookup f52 = some ⟨oc52, od52, .func (PySem.W.fnOf "is_above" "is_above" (defArgs s_is_above) (defBody s_is_above) (defScope s_is_above) .none kV52 dc52 pm52 an52 cd52 ct52), sl52⟩) (c52 : PySem.W.codeIn K cd52 "is_above" = true) (k52 : PySem.W.keepIn K (.ref f52) = true)
    (a53 : PySem.W.nsIn K mainGlobals "_law_porter" = some (some (.ref f53))) (l53 : K.lookup f53 = some ⟨oc53, od53, .func (PySem.W.fnOf "_law_porter" "_law_porter" (defArgs s__law_porter) (defBody s__law_porter) (defScope s__law_porter) .none kV53 dc53 pm53 an53 cd53 ct53), sl53⟩) (c53 : PySem.W.codeIn K cd53 "_law_porter" = true) (k53 : PySem.W.keepIn K (.ref f53) = true)
    (a54 : PySem.W.nsIn K mainGlobals "_law_gatehouse" = some (some (.ref f54))) (l54 : K.lookup f54 = some ⟨oc54, od54, .func (PySem.W.fnOf "_law_gatehouse" "_law_gatehouse" (defArgs s__law_gatehouse) (defBody s__law_gatehouse) (defScope s__law_gatehouse) .none kV54 dc54 pm54 an54 cd54 ct54), sl54⟩) (c54 : PySem.W.codeIn K cd54 "_law_gatehouse" = true) (k54 : PySem.W.keepIn K (.ref f54) = true)
    (a55 : PySem.W.nsIn K mainGlobals "_law_pick" = some (some (.ref f55))) (l55 : K.lookup f55 = some ⟨oc55, od55, .func (PySem.W.fnOf "_law_pick" "_law_pick" (defArgs s__law_pick) (defBody s__law_pick) (defScope s__law_pick) .none kV55 dc55 pm55 an55 cd55 ct55), sl55⟩) (c55 : PySem.W.codeIn K cd55 "_law_pick" = true) (k55 : PySem.W.keepIn K (.ref f55) = true)
    (a56 : PySem.W.nsIn K mainGlobals "_law_heard" = some (some (.ref f56))) (l56 : K.lookup f56 = some ⟨oc56, od56, .func (PySem.W.fnOf "_law_heard" "_law_heard" (defArgs s__law_heard) (defBody s__law_heard) (defScope s__law_heard) .none kV56 dc56 pm56 an56 cd56 ct56), sl56⟩) (c56 : PySem.W.codeIn K cd56 "_law_heard" = true) (k56 : PySem.W.keepIn K (.ref f56) = true)
    (a57 : PySem.W.nsIn K mainGlobals "_law_polys_right" = some (some (.ref f57))) (l57 : K.lookup f57 = some ⟨oc57, od57, .func (PySem.W.fnOf "_law_polys_right" "_law_polys_right" (defArgs s__law_polys_right) (defBody s__law_polys_right) (defScope s__law_polys_right) .none kV57 dc57 pm57 an57 cd57 ct57), sl57⟩) (c57 : PySem.W.codeIn K cd57 "_law_polys_right" = true) (k57 : PySem.W.keepIn K (.ref f57) = true)
    (a58 : PySem.W.nsIn K mainGlobals "_law_zeros_right" = some (some (.ref f58))) (l58 : K.lookup f58 = some ⟨oc58, od58, .func (PySem.W.fnOf "_law_zeros_right" "_law_zeros_right" (defArgs s__law_zeros_right) (defBody s__law_zeros_right) (defScope s__law_zeros_right) .none kV58 dc58 pm58 an58 cd58 ct58), sl58⟩) (c58 : PySem.W.codeIn K cd58 "_law_zeros_right" = true) (k58 : PySem.W.keepIn K (.ref f58) = true)
    (a59 : PySem.W.nsIn K mainGlobals "law" = some (some (.ref f59))) (l59 : K.lookup f59 = some ⟨oc59, od59, .func (PySem.W.fnOf "law" "law" (defArgs s_law) (defBody s_law) (defScope s_law) .none kV59 dc59 pm59 an59 cd59 ct59), sl59⟩) (c59 : PySem.W.codeIn K cd59 "law" = true) (k59 : PySem.W.keepIn K (.ref f59) = true)
    (z0 : PySem.W.nsIn K mainGlobals "abs" = some none)
    (z1 : PySem.W.nsIn K mainGlobals "all" = some none)
    (z2 : PySem.W.nsIn K mainGlobals "bool" = some none)
    (z3 : PySem.W.nsIn K mainGlobals "enumerate" = some none)
    (z4 : PySem.W.nsIn K mainGlobals "int" = some none)
    (z5 : PySem.W.nsIn K mainGlobals "isinstance" = some none)
    (z6 : PySem.W.nsIn K mainGlobals "len" = some none)
    (z7 : PySem.W.nsIn K mainGlobals "list" = some none)
    (z8 : PySem.W.nsIn K mainGlobals "max" = some none)
    (z9 : PySem.W.nsIn K mainGlobals "range" = some none)
    (z10 : PySem.W.nsIn K mainGlobals "reversed" = some none)
    (z11 : PySem.W.nsIn K mainGlobals "set" = some none)
    (z12 : PySem.W.nsIn K mainGlobals "sum" = some none)
    (z13 : PySem.W.nsIn K mainGlobals "tuple" = some none)
    (z14 : PySem.W.nsIn K mainGlobals "zip" = some none)
    (m0 : PySem.W.nsIn K mainGlobals "gcd" = some (some (.builtin "math.gcd")))
    (m1 : PySem.W.nsIn K mainGlobals "lcm" = some (some (.builtin "math.lcm")))
    (c90 : ∃ t, PySem.W.nsIn K mainGlobals "MOST_NUMBERS" = some (some (.int 80 t)))
    (c91 : ∃ t, PySem.W.nsIn K mainGlobals "MOST_POINTS" = some (some (.int 40 t)))
    (hN : PySem.W.specialIn K (.builtin "object.__class__") "__get__" = some (some (.builtin "getset_descriptor.__get__")))
    (hT : PySem.W.takesIn K (.builtin "object.__class__") = some true)
    (xa0 : PySem.W.nsIn K mainGlobals "BadPoly" = some (some (.ref cc0)))
    (xl0 : K.lookup cc0 = some (excClassObj nm0 qq0 cc0 NN0 bs0 (.ref cc4 :: veT) true sn0 sb0 ab0 cl0 dD0 ka0 kb0 kc0 kd0 ke0 "ValueError.__new__"))
    (xs0 : PySem.W.findIn K (.ref cc0) "__setattr__" = some (some (.builtin "object.__setattr__")))
    (xg0 : PySem.W.findIn K (.ref cc0) "__getattribute__" = some (some (.builtin "BaseException.__getattribute__")))
    (xh0 : PySem.W.findIn K (.ref cc0) "__getattr__" = some none)
    (xc0 : PySem.W.findIn K (.ref cc0) "__class__" = some (some (.builtin "object.__class__")))
    (xk0 : PySem.W.keepIn K (.ref cc0) = true)
    (xn0_0 : PySem.W.findIn K (.ref cc0) "part" = some none)
    (xi0 : PySem.W.findIn K (.ref cc0) "__init__" = some (some (.ref fi0)))
    (xt0 : PySem.W.typeIn K (.ref fi0) = some (.type "function"))
    (xf0 : K.lookup fi0 = some ⟨oC0, oD0, .func (PySem.W.fnOf "__init__" "BadPoly.__init__" (defArgs s_BadPoly) (defBody s_BadPoly) (defScope s_BadPoly) .none kV0x dC0 pM0 aN0 cD0 cT0), sL0⟩)
    (xd0 : PySem.W.codeIn K cD0 "BadPoly.__init__" = true)
    (xj0 : PySem.W.keepIn K (.ref fi0) = true)
    (xa1 : PySem.W.nsIn K mainGlobals "BadNumber" = some (some (.ref cc1)))
    (xl1 : K.lookup cc1 = some (excClassObj nm1 qq1 cc1 NN1 bs1 (.ref cc4 :: veT) true sn1 sb1 ab1 cl1 dD1 ka1 kb1 kc1 kd1 ke1 "ValueError.__new__"))
    (xs1 : PySem.W.findIn K (.ref cc1) "__setattr__" = some (some (.builtin "object.__setattr__")))
    (xg1 : PySem.W.findIn K (.ref cc1) "__getattribute__" = some (some (.builtin "BaseException.__getattribute__")))
    (xh1 : PySem.W.findIn K (.ref cc1) "__getattr__" = some none)
    (xc1 : PySem.W.findIn K (.ref cc1) "__class__" = some (some (.builtin "object.__class__")))
    (xk1 : PySem.W.keepIn K (.ref cc1) = true)
    (xn1_0 : PySem.W.findIn K (.ref cc1) "part" = some none)
    (xi1 : PySem.W.findIn K (.ref cc1) "__init__" = some (some (.ref fi1)))
    (xt1 : PySem.W.typeIn K (.ref fi1) = some (.type "function"))
    (xf1 : K.lookup fi1 = some ⟨oC1, oD1, .func (PySem.W.fnOf "__init__" "BadNumber.__init__" (defArgs s_BadNumber) (defBody s_BadNumber) (defScope s_BadNumber) .none kV1x dC1 pM1 aN1 cD1 cT1), sL1⟩)
    (xd1 : PySem.W.codeIn K cD1 "BadNumber.__init__" = true)
    (xj1 : PySem.W.keepIn K (.ref fi1) = true)
    (xa2 : PySem.W.nsIn K mainGlobals "Misfit" = some (some (.ref cc2)))
    (xl2 : K.lookup cc2 = some (excClassObj nm2 qq2 cc2 NN2 bs2 (.ref cc4 :: veT) true sn2 sb2 ab2 cl2 dD2 ka2 kb2 kc2 kd2 ke2 "ValueError.__new__"))
    (xs2 : PySem.W.findIn K (.ref cc2) "__setattr__" = some (some (.builtin "object.__setattr__")))
    (xg2 : PySem.W.findIn K (.ref cc2) "__getattribute__" = some (some (.builtin "BaseException.__getattribute__")))
    (xh2 : PySem.W.findIn K (.ref cc2) "__getattr__" = some none)
    (xc2 : PySem.W.findIn K (.ref cc2) "__class__" = some (some (.builtin "object.__class__")))
    (xk2 : PySem.W.keepIn K (.ref cc2) = true)
    (xn2_0 : PySem.W.findIn K (.ref cc2) "part" = some none)
    (xi2 : PySem.W.findIn K (.ref cc2) "__init__" = some (some (.ref fi2)))
    (xt2 : PySem.W.typeIn K (.ref fi2) = some (.type "function"))
    (xf2 : K.lookup fi2 = some ⟨oC2, oD2, .func (PySem.W.fnOf "__init__" "Misfit.__init__" (defArgs s_Misfit) (defBody s_Misfit) (defScope s_Misfit) .none kV2x dC2 pM2 aN2 cD2 cT2), sL2⟩)
    (xd2 : PySem.W.codeIn K cD2 "Misfit.__init__" = true)
    (xj2 : PySem.W.keepIn K (.ref fi2) = true)
    (xa3 : PySem.W.nsIn K mainGlobals "TooMany" = some (some (.ref cc3)))
    (xl3 : K.lookup cc3 = some (excClassObj nm3 qq3 cc3 NN3 bs3 (.ref cc4 :: veT) true sn3 sb3 ab3 cl3 dD3 ka3 kb3 kc3 kd3 ke3 "ValueError.__new__"))
    (xs3 : PySem.W.findIn K (.ref cc3) "__setattr__" = some (some (.builtin "object.__setattr__")))
    (xg3 : PySem.W.findIn K (.ref cc3) "__getattribute__" = some (some (.builtin "BaseException.__getattribute__")))
    (xh3 : PySem.W.findIn K (.ref cc3) "__getattr__" = some none)
    (xc3 : PySem.W.findIn K (.ref cc3) "__class__" = some (some (.builtin "object.__class__")))
    (xk3 : PySem.W.keepIn K (.ref cc3) = true)
    (xn3_0 : PySem.W.findIn K (.ref cc3) "what" = some none)
    (xn3_1 : PySem.W.findIn K (.ref cc3) "most" = some none)
    (xi3 : PySem.W.findIn K (.ref cc3) "__init__" = some (some (.ref fi3)))
    (xt3 : PySem.W.typeIn K (.ref fi3) = some (.type "function"))
    (xf3 : K.lookup fi3 = some ⟨oC3, oD3, .func (PySem.W.fnOf "__init__" "TooMany.__init__" (defArgs s_TooMany) (defBody s_TooMany) (defScope s_TooMany) .none kV3x dC3 pM3 aN3 cD3 cT3), sL3⟩)
    (xd3 : PySem.W.codeIn K cD3 "TooMany.__init__" = true)
    (xj3 : PySem.W.keepIn K (.ref fi3) = true)
    (xa4 : PySem.W.nsIn K mainGlobals "FlowError" = some (some (.ref cc4)))
    (xl4 : K.lookup cc4 = some (excClassObj nm4 qq4 cc4 NN4 bs4 veT true sn4 sb4 ab4 cl4 dD4 ka4 kb4 kc4 kd4 ke4 "ValueError.__new__"))
    (ne0_1 : cc0 ≠ cc1)
    (ne0_2 : cc0 ≠ cc2)
    (ne0_3 : cc0 ≠ cc3)
    (ne0_4 : cc0 ≠ cc4)
    (ne1_2 : cc1 ≠ cc2)
    (ne1_3 : cc1 ≠ cc3)
    (ne1_4 : cc1 ≠ cc4)
    (ne2_3 : cc2 ≠ cc3)
    (ne2_4 : cc2 ≠ cc4)
    (ne3_4 : cc3 ≠ cc4)
    (htb1_ : PySem.W.tabIn K "_law_polys_right" = some (cc1t, PP1))
    (hcd1_ : cd57 = .ref cc1t)
    (hnl1_ : K.lookup PP1 = none)
    (htb2_ : PySem.W.tabIn K "_law_zeros_right" = some (cc2t, PP2))
    (hcd2_ : cd58 = .ref cc2t)
    (hnl2_ : K.lookup PP2 = none)
    (hPP : PP1 ≠ PP2)
    (htc1_ : PySem.W.CodeHd h cc1t PP1 ∧ h.get? PP1 = some (PySem.W.tabObj #[]))
    (htc2_ : PySem.W.CodeHd h cc2t PP2 ∧ h.get? PP2 = some (PySem.W.tabObj #[]))
    : ∃ (fd : FuncData) (cs : List (Addr × Addr)) (sp : Sp), (∀ p ∈ cs, h.get? p.2 = some (PySem.W.tabObj #[])) ∧ (∀ p ∈ cs, K.lookup p.2 = none) ∧ (∀ p ∈ cs, PySem.W.CodeHd h p.1 p.2) ∧ (∀ (s : Shared) (u : Value), BindsTo s fd ⟨[u], []⟩ [("script", u)]) ∧
      (∀ (H : Hp) (a : Addr) (ns : List Int), ns.length ≤ 63 → (∀ p ∈ cs, H p.2 = some (.tbl #[])) → SqL K H a (ns.map V.int) → sp [.ref a] H (fun v _ => v = .bl true) fun _ _ _ => False) ∧
      ∀ base : Heap, K.In base → base.Ns mainGlobals mg → (∀ p ∈ cs, LamX.TabB base mg p.1 p.2) → FnG P w K mg base CX0 11 fa fd ["script"] sp := by
  have hcode1 : ∀ (f : Addr) (fd : FuncData) (oc : Value) (od : Option Addr) (osl : Array (Option Value)), mg "_law_polys_right" = some (.ref f) → K.lookup f = some ⟨oc, od, .func fd, osl⟩ → fd.code = .ref cc1t := by
    intro f fd oc od osl e l
    have z := PySem.W.mg_of X G a57
    rw [z] at e
    cases e
    rw [l57] at l
    cases l
    exact hcd1_
  have hcode2 : ∀ (f : Addr) (fd : FuncData) (oc : Value) (od : Option Addr) (osl : Array (Option Value)), mg "_law_zeros_right" = some (.ref f) → K.lookup f = some ⟨oc, od, .func fd, osl⟩ → fd.code = .ref cc2t := by
    intro f fd oc od osl e l
    have z := PySem.W.mg_of X G a58
    rw [z] at e
    cases e
    rw [l58] at l
    cases l
    exact hcd2_
  obtain ⟨fd, hb, hF⟩ := end_mk (h := h) hmg (fun base => {  d_is_integer := de_mk X G a0 l0 c0 k0, d_is_within := de_mk X G a1 l1 c1 k1, d_is_list := de_mk X G a2 l2 c2 k2, d_is_fraction := de_mk X G a3 l3 c3 k3, d_is_place := de_mk X G a4 l4 c4 k4, d_reduced := de_mk X G a5 l5 c5 k5, d_read_fraction := de_mk X G a6 l6 c6 k6, d_over_one_down := de_mk X G a7 l7 c7 k7, d_fraction_of := de_mk X G a8 l8 c8 k8, d_added := de_mk X G a9 l9 c9 k9, d_taken := de_mk X G a10 l10 c10 k10, d_multiplied := de_mk X G a11 l11 c11 k11, d_divided := de_mk X G a12 l12 c12 k12, d_sign_of := de_mk X G a13 l13 c13 k13, d_cut := de_mk X G a14 l14 c14 k14, d_times_whole := de_mk X G a15 l15 c15 k15, d_powers_of := de_mk X G a16 l16 c16 k16, d_scaled := de_mk X G a17 l17 c17 k17, d_shifted := de_mk X G a18 l18 c18 k18, d_value_whole := de_mk X G a19 l19 c19 k19, d_content_of := de_mk X G a20 l20 c20 k20, d_rest_whole := de_mk X G a21 l21 c21 k21, d_quotient_whole := de_mk X G a22 l22 c22 k22, d_trimmed := de_mk X G a23 l23 c23 k23, d_is_poly := de_mk X G a24 l24 c24 k24, d_read_poly := de_mk X G a25 l25 c25 k25, d_poly_of := de_mk X G a26 l26 c26 k26, d_value_at := de_mk X G a27 l27 c27 k27, d_poly_sum := de_mk X G a28 l28 c28 k28, d_poly_times := de_mk X G a29 l29 c29 k29, d_parted := de_mk X G a30 l30 c30 k30, d_poly_parted := de_mk X G a31 l31 c31 k31, d_slope_of := de_mk X G a32 l32 c32 k32, d_read_points := de_mk X G a33 l33 c33 k33, d_times_factor := de_mk X G a34 l34 c34 k34, d_without_factor := de_mk X G a35 l35 c35 k35, d_share_at := de_mk X G a36 l36 c36 k36, d_poly_through := de_mk X G a37 l37 c37 k37, d_row_of := de_mk X G a38 l38 c38 k38, d_times_scale := de_mk X G a39 l39 c39 k39, d_rests_of := de_mk X G a40 l40 c40 k40, d_counting_row := de_mk X G a41 l41 c41 k41, d_changes_at := de_mk X G a42 l42 c42 k42, d_zeros_within := de_mk X G a43 l43 c43 k43, d_first_span := de_mk X G a44 l44 c44 k44, d_as_unit := de_mk X G a45 l45 c45 k45, d_is_plainly_above := de_mk X G a46 l46 c46 k46, d_is_above_on := de_mk X G a47 l47 c47 k47, d_want_bounds := de_mk X G a48 l48 c48 k48, d_want_stretch := de_mk X G a49 l49 c49 k49, d_zeros_in := de_mk X G a50 l50 c50 k50, d_first_zero := de_mk X G a51 l51 c51 k51, d_is_above := de_mk X G a52 l52 c52 k52, d__law_porter := de_mk X G a53 l53 c53 k53, d__law_gatehouse := de_mk X G a54 l54 c54 k54, d__law_pick := de_mk X G a55 l55 c55 k55, d__law_heard := de_mk X G a56 l56 c56 k56, d__law_polys_right := de_mk X G a57 l57 c57 k57, d__law_zeros_right := de_mk X G a58 l58 c58 k58, d_law := de_mk X G a59 l59 c59 k59, n_abs := PySem.W.mg_none_of X G z0, n_all := PySem.W.mg_none_of X G z1, n_bool := PySem.W.mg_none_of X G z2, n_enumerate := PySem.W.mg_none_of X G z3, n_int := PySem.W.mg_none_of X G z4, n_isinstance := PySem.W.mg_none_of X G z5, n_len := PySem.W.mg_none_of X G z6, n_list := PySem.W.mg_none_of X G z7, n_max := PySem.W.mg_none_of X G z8, n_range := PySem.W.mg_none_of X G z9, n_reversed := PySem.W.mg_none_of X G z10, n_set := PySem.W.mg_none_of X G z11, n_sum := PySem.W.mg_none_of X G z12, n_tuple := PySem.W.mg_none_of X G z13, n_zip := PySem.W.mg_none_of X G z14, m_gcd := PySem.W.mg_of X G m0, m_lcm := PySem.W.mg_of X G m1, c_MOST_NUMBERS := Exists.elim c90 fun t e => ⟨t, PySem.W.mg_of X G e⟩, c_MOST_POINTS := Exists.elim c91 fun t e => ⟨t, PySem.W.mg_of X G e⟩, x_err := ⟨cc0, cc1, cc2, cc3, cc4, { poly := ed_mk X G xa0 xl0 xs0 xg0 xh0 xc0 hN hT xk0 (no1 xn0_0) xi0 xt0 xf0 xd0 xj0, num := ed_mk X G xa1 xl1 xs1 xg1 xh1 xc1 hN hT xk1 (no1 xn1_0) xi1 xt1 xf1 xd1 xj1, mis := ed_mk X G xa2 xl2 xs2 xg2 xh2 xc2 hN hT xk2 (no1 xn2_0) xi2 xt2 xf2 xd2 xj2, tm := ed_mk X G xa3 xl3 xs3 xg3 xh3 xc3 hN hT xk3 (no2 xn3_0 xn3_1) xi3 xt3 xf3 xd3 xj3, mg := PySem.W.mg_of X G xa4, cl := ⟨_, _, _, _, _, _, _, _, _, _, _, _, _, _, xl4⟩, n0_1 := ne0_1, n0_2 := ne0_2, n0_3 := ne0_3, n0_4 := ne0_4, n1_2 := ne1_2, n1_3 := ne1_3, n1_4 := ne1_4, n2_3 := ne2_3, n2_4 := ne2_4, n3_4 := ne3_4 }⟩ }) hcode1 hcode2 hPP
  refine ⟨fd, [(cc1t, PP1), (cc2t, PP2)], sp_law PP1 PP2 K, ?_, ?_, ?_, hb, ?_, ?_⟩
  · intro p hp
    simp only [List.mem_cons, List.not_mem_nil, or_false] at hp
    rcases hp with rfl | rfl
    · exact htc1_.2
    · exact htc2_.2
  · intro p hp
    simp only [List.mem_cons, List.not_mem_nil, or_false] at hp
    rcases hp with rfl | rfl
    · exact hnl1_
    · exact hnl2_
  · intro p hp
    simp only [List.mem_cons, List.not_mem_nil, or_false] at hp
    rcases hp with rfl | rfl
    · exact htc1_.1
    · exact htc2_.1
  · intro H a ns hl hT hS
    refine ⟨a, ns, rfl, hS, hl, fun p hp => ?_, fun _ => rfl⟩
    simp only [List.mem_cons, List.not_mem_nil, or_false] at hp
    rcases hp with rfl | rfl
    · exact LamX.TabS.nil (hT (cc1t, PP1) (by simp))
    · exact LamX.TabS.nil (hT (cc2t, PP2) (by simp))
  · intro base h1 h2 h3
    exact hF base h1 h2 (h3 (cc1t, PP1) (by simp)) (h3 (cc2t, PP2) (by simp))
end Mf
open PySem PySem.W PyProof.Rows
set_option maxHeartbeats 0 in
theorem PySem.Challenge.cw_mapflow_k46_polynomials_and_zeros_refuse_holds : PySem.Challenge.rw_mapflow_k46_polynomials_and_zeros_refuse.Holds := by
  w_on; o_law; k_head; (case hw => w_witness2)
  k_fill
  refine Mf.walkGT (l := PySem.Challenge.rw_mapflow_k46_polynomials_and_zeros_refuse) (n := 63) (k := 11) (x := "script") rfl (by decide) rfl ⟨rfl, by decide, by decide⟩ (fun w h Y => PySem.W.km_in_of Y) ?F
  case F =>
    intro w mg fa h KX G hmg htab
    refine' Mf.all_mk KX G hmg ?a0 ?l0 ?c0 ?k0 ?a1 ?l1 ?c1 ?k1 ?a2 ?l2 ?c2 ?k2 ?a3 ?l3 ?c3 ?k3 ?a4 ?l4 ?c4 ?k4 ?a5 ?l5 ?c5 ?k5 ?a6 ?l6 ?c6 ?k6 ?a7 ?l7 ?c7 ?k7 ?a8 ?l8 ?c8 ?k8 ?a9 ?l9 ?c9 ?k9 ?a10 ?l10 ?c10 ?k10 ?a11 ?l11 ?c11 ?k11 ?a12 ?l12 ?c12 ?k12 ?a13 ?l13 ?c13 ?k13 ?a14 ?l14 ?c14 ?k14 ?a15 ?l15 ?c15 ?k15 ?a16 ?l16 ?c16 ?k16 ?a17 ?l17 ?c17 ?k17 ?a18 ?l18 ?c18 ?k18 ?a19 ?l19 ?c19 ?k19 ?a20 ?l20 ?c20 ?k20 ?a21 ?l21 ?c21 ?k21 ?a22 ?l22 ?c22 ?k22 ?a23 ?l23 ?c23 ?k23 ?a24 ?l24 ?c24 ?k24 ?a25 ?l25 ?c25 ?k25 ?a26 ?l26 ?c26 ?k26 ?a27 ?l27 ?c27 ?k27 ?a28 ?l28 ?c28 ?k28 ?a29 ?l29 ?c29 ?k29 ?a30 ?l30 ?c30 ?k30 ?a31 ?l31 ?c31 ?k31 ?a32 ?l32 ?c32 ?k32 ?a33 ?l33 ?c33 ?k33 ?a34 ?l34 ?c34 ?k34 ?a35 ?l35 ?c35 ?k35 ?a36 ?l36 ?c36 ?k36 ?a37 ?l37 ?c37 ?k37 ?a38 ?l38 ?c38 ?k38 ?a39 ?l39 ?c39 ?k39 ?a40 ?l40 ?c40 ?k40 ?a41 ?l41 ?c41 ?k41 ?a42 ?l42 ?c42 ?k42 ?a43 ?l43 ?c43 ?k43 ?a44 ?l44 ?c44 ?k44 ?a45 ?l45 ?c45 ?k45 ?a46 ?l46 ?c46 ?k46 ?a47 ?l47 ?c47 ?k47 ?a48 ?l48 ?c48 ?k48 ?a49 ?l49 ?c49 ?k49 ?a50 ?l50 ?c50 ?k50 ?a51 ?l51 ?c51 ?k51 ?a52 ?l52 ?c52 ?k52 ?a53 ?l53 ?c53 ?k53 ?a54 ?l54 ?c54 ?k54 ?a55 ?l55 ?c55 ?k55 ?a56 ?l56 ?c56 ?k56 ?a57 ?l57 ?c57 ?k57 ?a58 ?l58 ?c58 ?k58 ?a59 ?l59 ?c59 ?k59 ?z0 ?z1 ?z2 ?z3 ?z4 ?z5 ?z6 ?z7 ?z8 ?z9 ?z10 ?z11 ?z12 ?z13 ?z14 ?m0 ?m1 ?c90 ?c91 ?hN ?hT ?xa0 ?xl0 ?xs0 ?xg0 ?xh0 ?xc0 ?xk0 ?xn0_0 ?xi0 ?xt0 ?xf0 ?xd0 ?xj0 ?xa1 ?xl1 ?xs1 ?xg1 ?xh1 ?xc1 ?xk1 ?xn1_0 ?xi1 ?xt1 ?xf1 ?xd1 ?xj1 ?xa2 ?xl2 ?xs2 ?xg2 ?xh2 ?xc2 ?xk2 ?xn2_0 ?xi2 ?xt2 ?xf2 ?xd2 ?xj2 ?xa3 ?xl3 ?xs3 ?xg3 ?xh3 ?xc3 ?xk3 ?xn3_0 ?xn3_1 ?xi3 ?xt3 ?xf3 ?xd3 ?xj3 ?xa4 ?xl4 ?ne0_1 ?ne0_2 ?ne0_3 ?ne0_4 ?ne1_2 ?ne1_3 ?ne1_4 ?ne2_3 ?ne2_4 ?ne3_4 ?htb1_ ?hcd1_ ?hnl1_ ?htb2_ ?hcd2_ ?hnl2_ ?hPP (htab (PySem.Str.ofString "_law_polys_right") _ _ _ ?hfd1 ?htc1) (htab (PySem.Str.ofString "_law_zeros_right") _ _ _ ?hfd2 ?htc2)
    (case a0 => k_is); (case l0 => k_is); (case c0 => k_is); (case k0 => k_is); (case a1 => k_is); (case l1 => k_is); (case c1 => k_is); (case k1 => k_is); (case a2 => k_is); (case l2 => k_is); (case c2 => k_is); (case k2 => k_is); (case a3 => k_is); (case l3 => k_is); (case c3 => k_is); (case k3 => k_is); (case a4 => k_is); (case l4 => k_is); (case c4 => k_is); (case k4 => k_is); (case a5 => k_is); (case l5 => k_is); (case c5 => k_is); (case k5 => k_is); (case a6 => k_is); (case l6 => k_is); (case c6 => k_is); (case k6 => k_is); (case a7 => k_is); (case l7 => k_is); (case c7 => k_is); (case k7 => k_is); (case a8 => k_is); (case l8 => k_is); (case c8 => k_is); (case k8 => k_is); (case a9 => k_is); (case l9 => k_is); (case c9 => k_is); (case k9 => k_is); (case a10 => k_is); (case l10 => k_is); (case c10 => k_is); (case k10 => k_is); (case a11 => k_is); (case l11 => k_is); (case c11 => k_is); (case k11 => k_is); (case a12 => k_is); (case l12 => k_is); (case c12 => k_is); (case k12 => k_is); (case a13 => k_is); (case l13 => k_is); (case c13 => k_is); (case k13 => k_is); (case a14 => k_is); (case l14 => k_is); (case c14 => k_is); (case k14 => k_is); (case a15 => k_is); (case l15 => k_is); (case c15 => k_is); (case k15 => k_is); (case a16 => k_is); (case l16 => k_is); (case c16 => k_is); (case k16 => k_is); (case a17 => k_is); (case l17 => k_is); (case c17 => k_is); (case k17 => k_is); (case a18 => k_is); (case l18 => k_is); (case c18 => k_is); (case k18 => k_is); (case a19 => k_is); (case l19 => k_is); (case c19 => k_is); (case k19 => k_is); (case a20 => k_is); (case l20 => k_is); (case c20 => k_is); (case k20 => k_is); (case a21 => k_is); (case l21 => k_is); (case c21 => k_is); (case k21 => k_is); (case a22 => k_is); (case l22 => k_is); (case c22 => k_is); (case k22 => k_is); (case a23 => k_is); (case l23 => k_is); (case c23 => k_is); (case k23 => k_is); (case a24 => k_is); (case l24 => k_is); (case c24 => k_is); (case k24 => k_is); (case a25 => k_is); (case l25 => k_is); (case c25 => k_is); (case k25 => k_is); (case a26 => k_is); (case l26 => k_is); (case c26 => k_is); (case k26 => k_is); (case a27 => k_is); (case l27 => k_is); (case c27 => k_is); (case k27 => k_is); (case a28 => k_is); (case l28 => k_is); (case c28 => k_is); (case k28 => k_is); (case a29 => k_is); (case l29 => k_is); (case c29 => k_is); (case k29 => k_is); (case a30 => k_is); (case l30 => k_is); (case c30 => k_is); (case k30 => k_is); (case a31 => k_is); (case l31 => k_is); (case c31 => k_is); (case k31 => k_is); (case a32 => k_is); (case l32 => k_is); (case c32 => k_is); (case k32 => k_is); (case a33 => k_is); (case l33 => k_is); (case c33 => k_is); (case k33 => k_is); (case a34 => k_is); (case l34 => k_is); (case c34 => k_is); (case k34 => k_is); (case a35 => k_is); (case l35 => k_is); (case c35 => k_is); (case k35 => k_is); (case a36 => k_is); (case l36 => k_is); (case c36 => k_is); (case k36 => k_is); (case a37 => k_is); (case l37 => k_is); (case c37 => k_is); (case k37 => k_is); (case a38 => k_is); (case l38 => k_is); (case c38 => k_is); (case k38 => k_is); (case a39 => k_is); (case l39 => k_is); (case c39 => k_is); (case k39 => k_is); (case a40 => k_is); (case l40 => k_is); (case c40 => k_is); (case k40 => k_is); (case a41 => k_is); (case l41 => k_is); (case c41 => k_is); (case k41 => k_is); (case a42 => k_is); (case l42 => k_is); (case c42 => k_is); (case k42 => k_is); (case a43 => k_is); (case l43 => k_is); (case c43 => k_is); (case k43 => k_is); (case a44 => k_is); (case l44 => k_is); (case c44 => k_is); (case k44 => k_is); (case a45 => k_is); (case l45 => k_is); (case c45 => k_is); (case k45 => k_is); (case a46 => k_is); (case l46 => k_is); (case c46 => k_is); (case k46 => k_is); (case a47 => k_is); (case l47 => k_is); (case c47 => k_is); (case k47 => k_is); (case a48 => k_is); (case l48 => k_is); (case c48 => k_is); (case k48 => k_is); (case a49 => k_is); (case l49 => k_is); (case c49 => k_is); (case k49 => k_is); (case a50 => k_is); (case l50 => k_is); (case c50 => k_is); (case k50 => k_is); (case a51 => k_is); (case l51 => k_is); (case c51 => k_is); (case k51 => k_is); (case a52 => k_is); (case l52 => k_is); (case c52 => k_is); (case k52 => k_is); (case a53 => k_is); (case l53 => k_is); (case c53 => k_is); (case k53 => k_is); (case a54 => k_is); (case l54 => k_is); (case c54 => k_is); (case k54 => k_is); (case a55 => k_is); (case l55 => k_is); (case c55 => k_is); (case k55 => k_is); (case a56 => k_is); (case l56 => k_is); (case c56 => k_is); (case k56 => k_is); (case a57 => k_is); (case l57 => k_is); (case c57 => k_is); (case k57 => k_is); (case a58 => k_is); (case l58 => k_is); (case c58 => k_is); (case k58 => k_is); (case a59 => k_is); (case l59 => k_is); (case c59 => k_is); (case k59 => k_is); (case z0 => k_is); (case z1 => k_is); (case z2 => k_is); (case z3 => k_is); (case z4 => k_is); (case z5 => k_is); (case z6 => k_is); (case z7 => k_is); (case z8 => k_is); (case z9 => k_is); (case z10 => k_is); (case z11 => k_is); (case z12 => k_is); (case z13 => k_is); (case z14 => k_is); (case m0 => k_is); (case m1 => k_is); (case c90 => apply Exists.intro; k_is); (case c91 => apply Exists.intro; k_is); (case hN => first | k_is | rfl | decide +kernel); (case hT => first | k_is | rfl | decide +kernel); (case xa0 => first | k_is | rfl | decide +kernel); (case xl0 => first | k_is | rfl | decide +kernel); (case xs0 => first | k_is | rfl | decide +kernel); (case xg0 => first | k_is | rfl | decide +kernel); (case xh0 => first | k_is | rfl | decide +kernel); (case xc0 => first | k_is | rfl | decide +kernel); (case xk0 => first | k_is | rfl | decide +kernel); (case xn0_0 => first | k_is | rfl | decide +kernel); (case xi0 => first | k_is | rfl | decide +kernel); (case xt0 => first | k_is | rfl | decide +kernel); (case xf0 => first | k_is | rfl | decide +kernel); (case xd0 => first | k_is | rfl | decide +kernel); (case xj0 => first | k_is | rfl | decide +kernel); (case xa1 => first | k_is | rfl | decide +kernel); (case xl1 => first | k_is | rfl | decide +kernel); (case xs1 => first | k_is | rfl | decide +kernel); (case xg1 => first | k_is | rfl | decide +kernel); (case xh1 => first | k_is | rfl | decide +kernel); (case xc1 => first | k_is | rfl | decide +kernel); (case xk1 => first | k_is | rfl | decide +kernel); (case xn1_0 => first | k_is | rfl | decide +kernel); (case xi1 => first | k_is | rfl | decide +kernel); (case xt1 => first | k_is | rfl | decide +kernel); (case xf1 => first | k_is | rfl | decide +kernel); (case xd1 => first | k_is | rfl | decide +kernel); (case xj1 => first | k_is | rfl | decide +kernel); (case xa2 => first | k_is | rfl | decide +kernel); (case xl2 => first | k_is | rfl | decide +kernel); (case xs2 => first | k_is | rfl | decide +kernel); (case xg2 => first | k_is | rfl | decide +kernel); (case xh2 => first | k_is | rfl | decide +kernel); (case xc2 => first | k_is | rfl | decide +kernel); (case xk2 => first | k_is | rfl | decide +kernel); (case xn2_0 => first | k_is | rfl | decide +kernel); (case xi2 => first | k_is | rfl | decide +kernel); (case xt2 => first | k_is | rfl | decide +kernel); (case xf2 => first | k_is | rfl | decide +kernel); (case xd2 => first | k_is | rfl | decide +kernel); (case xj2 => first | k_is | rfl | decide +kernel); (case xa3 => first | k_is | rfl | decide +kernel); (case xl3 => first | k_is | rfl | decide +kernel); (case xs3 => first | k_is | rfl | decide +kernel); (case xg3 => first | k_is | rfl | decide +kernel); (case xh3 => first | k_is | rfl | decide +kernel); (case xc3 => first | k_is | rfl | decide +kernel); (case xk3 => first | k_is | rfl | decide +kernel); (case xn3_0 => first | k_is | rfl | decide +kernel); (case xn3_1 => first | k_is | rfl | decide +kernel); (case xi3 => first | k_is | rfl | decide +kernel); (case xt3 => first | k_is | rfl | decide +kernel); (case xf3 => first | k_is | rfl | decide +kernel); (case xd3 => first | k_is | rfl | decide +kernel); (case xj3 => first | k_is | rfl | decide +kernel); (case xa4 => first | k_is | rfl | decide +kernel); (case xl4 => first | k_is | rfl | decide +kernel); (case ne0_1 => decide); (case ne0_2 => decide); (case ne0_3 => decide); (case ne0_4 => decide); (case ne1_2 => decide); (case ne1_3 => decide); (case ne1_4 => decide); (case ne2_3 => decide); (case ne2_4 => decide); (case ne3_4 => decide); (case htb1_ => first | k_is | rfl | decide +kernel); (case hcd1_ => rfl); (case hnl1_ => first | rfl | decide +kernel); (case hfd1 => rfl); (case htc1 => first | k_is | rfl | decide +kernel); (case htb2_ => first | k_is | rfl | decide +kernel); (case hcd2_ => rfl); (case hnl2_ => first | rfl | decide +kernel); (case hfd2 => rfl); (case htc2 => first | k_is | rfl | decide +kernel); (case hPP => decide)
