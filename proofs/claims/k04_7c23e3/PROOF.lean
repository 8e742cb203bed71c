import PyProof.Rows.All
import Wide.All
import OpenK.AllK
import Wide.FinOn
import HandS.ForMost
import HandS.ForExc
import HandS.IsInst
import HandS.Wide
import HandS.Gcd
import HandS.Flow
import HandS.Style
import PyProof.ReprRoads
import HandS.NoneIn
import PyProof.ReprLen
import HandS.Conv
import PySem.Challenge.RW_mapflow_k04_sums_and_mixtures
set_option Elab.async false
set_option linter.all false
set_option maxRecDepth 100000
set_option maxHeartbeats 4000000
namespace Mf
open PySem PySem.Spec PyProof.Rows L2

/-! ### a def that is run where nothing is being shown (the guards are known to be none) -/
structure FnG (P : Program) (w : World) (K : PySem.W.Frag) (mg : Str → Option Value) (base : Heap) (CX : CXT) (k : Nat) (f : Addr) (fd : FuncData) (ps : List Str) (sp : Sp) : Prop where
  size : ∀ vs H Q E, sp vs H Q E → vs.length = ps.length
  go : ∀ (A : Around), A.guards = some [] → ∀ (outer : List Env) (s : Shared) (H : Hp) (args : Args) (us : List Value) (vs : List V) (Q : VK) (E : XK),
    Room k A → Env0 P w K mg base A outer s H → BindsTo s fd args (ps.zip us) → Vals vs us → sp vs H Q E →
      codeAny (model P w) A (.call (.ref f) args) (CR CX outer P w H s Q E) s

section
variable {P : Program} {w : World} {K : PySem.W.Frag} {mg : Str → Option Value} {base : Heap}

theorem FnG.of {CX : CXT} {k : Nat} {f : Addr} {fd : FuncData} {ps : List Str} {sp : Sp} (F : FnOk P w K mg base CX k f fd ps sp) : FnG P w K mg base CX k f fd ps sp :=
  ⟨F.len, fun A _ outer s H args us vs Q E => F.run A outer s H args us vs Q E⟩

/-- a def of the text, by its body, where the guards are known -/
theorem okG {x qual : Str} {st : Stmt} {f : Addr} {fd : FuncData} {N ps : List Str} {k : Nat} {sp : Sp} (F : Fun K x qual st f fd) (S : FnScope N ps (defScope st))
    (len : ∀ vs H Q E, sp vs H Q E → vs.length = ps.length)
    (hbody : ∀ (cdv : Value) (A : Around) (outer : List Env) (s : Shared) (H : Hp) (vs : List V) (Q : VK) (E : XK),
      (A.deeper (envOfC qual (defScope st) s.heap.objs.size f cdv)).guards = some [] →
      Room k (A.deeper (envOfC qual (defScope st) s.heap.objs.size f cdv)) → sp vs H Q E →
      ∃ t, PSs (cxOf CX0 P w K mg base N qual (defScope st) f cdv A outer s H E).nox (defBody st) t ∧
        t { nx := fun _ H' => Q .non H', rt := Q } (start N vs) H) :
    FnG P w K mg base CX0 (k + 1) f fd ps sp := by
  obtain ⟨oc, od, kV, doc, pm, an, cdv, ct, osl, rfl, lk, hcd⟩ := F.ex
  refine ⟨len, ?_⟩
  intro A hA outer s H args us vs Q E hr e0 hb r hsp
  have KX : K.In s.heap := e0.mod.kin.keeps fun b o e => (e0.bs b o e).1
  have lim : s.heap.NoLimit := e0.mod.nolimit.keeps fun b o e => (e0.bs b o e).1
  have hl := len _ _ _ _ hsp
  have kinds : ∀ y ∈ ps.zip us, (defScope st).names.lookup y.1 = some .local ∨
      ((defScope st).names.lookup y.1 = some .cell ∧ ((cellsFrom (s.heap.objs.size + 1) (defScope st).names []).lookup y.1).isSome = true) := by
    intro y hy
    obtain ⟨n, v⟩ := y
    cases S.par n (List.of_mem_zip hy).1 with
    | inl q => exact Or.inl q
    | inr q => exact Or.inr ⟨q, PySem.W.cellsFrom_some _ _ _ (.inl q)⟩
  refine codeAny_call_function hr.depth (KX _ _ lk) rfl S.co S.gen rfl (PySem.W.codeRec_of KX hcd) (hb _ _ _ _ ?_)
  refine wpAny_newFunctionEnv_cells S.kind kinds ?_
  intro env he s1 x
  subst he
  refine ⟨lim.keeps x.toInCall.keep, codeAny_func ?_⟩
  have hAg : (A.deeper (envOfC qual (defScope st) s.heap.objs.size f cdv)).guards = some [] := hA
  obtain ⟨t, ht, hq⟩ := hbody cdv A outer s H vs Q E hAg (hr.deeper _) hsp
  have I := inv_start (CX := CX0) (mg := mg) (base := base) (N := N) (qual := qual) (f := f) (cd := cdv) (E := E) S hr.hd e0 hl r x
  refine wpAny_mono (ht.nox.run [] s1 (start N vs) H _ I hq) ?_ (fun e s' hs => hs)
  intro fl s' hs
  cases fl with
  | ret u =>
    obtain ⟨v, σ', H', J, rv, q⟩ := hs
    exact ⟨v, H', J.os, J.bare, J.base, J.hok, rv, q⟩
  | next =>
    obtain ⟨σ', H', J, q⟩ := hs
    exact ⟨V.non, H', J.os, J.bare, J.base, J.hok, (rfl : Value.none = Value.none), q⟩
  | brk => obtain ⟨_, _, _, q⟩ := hs; exact False.elim q
  | cont => obtain ⟨_, _, _, q⟩ := hs; exact False.elim q
end

section
variable {X : Cx} {CX : CXT} {k : Nat} {f C : Addr} {fd : FuncData} {ps : List Str} {sp : Sp} {E : XK} {x : Str} {p pos : Pos} {e : Expr} {es : List Expr} {t : TA}
theorem run_fnG {pins : List (Addr × Obj)} {σ : L2.St} {H : Hp} {s : Shared} {Q : VK} {us : List Value} {vs : List V} (F : FnG X.prog X.w X.K X.mg X.base CX k f fd ps sp)
    (hA : X.A.guards = some []) (hr : Room k X.A) (hb : Binds X.K fd ps []) (hx : Passes CX X E)
    (I : Inv X pins σ H s) (r : Vals vs us) (h : sp vs H Q E) : wpAny (model X.prog X.w) X.A (call (.ref f) us) (EP X pins σ Q) X.xe s := by
  have hl : (us ++ []).length = ps.length := by
    rw [List.append_nil, ← r.length]
    exact F.size _ _ _ _ h
  have hb' := hb s us I.kIn hl
  rw [List.append_nil] at hb'
  refine wpAny_call (codeAny_mono (F.go X.A hA X.stack s H ⟨us, []⟩ us vs Q E hr I.env0 hb' r h) ?_)
  intro r s' hq
  cases r with
  | error e => exact hx pins σ H s e s' I hq
  | ok fl => cases fl with
    | ret u => exact I.after hq
    | next => exact hq.elim
    | brk => exact hq.elim
    | cont => exact hq.elim
/-- f(e, ..) where the guards are known -/
theorem pe_callG (F : FnG X.prog X.w X.K X.mg X.base CX k f fd ps sp) (hA : X.A.guards = some []) (hr : Room k X.A) (hg : Gl X x) (hm : X.mg x = some (.ref f))
    (hk : PySem.W.keepIn X.K (.ref f) = true) (hb : Binds X.K fd ps []) (hx : Passes CX X E)
    (ha : PA X (e :: es) t) (hdb : (x == ("__debug__" : Str)) = false := by decide) (he : starEach (e :: es) X.env = (false, eval e X.env) :: starEach es X.env := by rfl)
    (hpl : (backTo pos (starEach es X.env)).any (·.1) = false := by rfl) :
    PE X (.Call (.Name x p) (e :: es) [] pos) (fun σ H Q => t σ H fun vs H1 => sp vs H1 Q E) := by
  refine ⟨fun pins s σ H Q I h => wpAny_Call_Name_kw (ld_glob I hg hm ?_ hdb)⟩
  refine PySem.W.callWith_K (h₀ := X.base) I.ok.mod.kin hk (thn (ha.run pos pins s σ H _ I h) ?_) he hpl
  intro us s1 ⟨vs, H1, I1, r, q⟩
  exact ⟨I1.kIn, run_fnG F hA hr hb hx I1 r q⟩
end

/-! ### the law's call, where its def is an FnG -/
theorem law_callG {P : Program} {w : World} {K : PySem.W.Frag} {mg mb : Str → Option Value} {k : Nat} {fa a : Addr} {fd : FuncData} {x : Str} {sp : Sp} {s₁ : Shared} {vs : List Value} {ns : List Int}
    (KX : K.In s₁.heap) (hns : s₁.heap.Ns mainGlobals mg) (hb : s₁.heap.Ns builtinsNs mb) (hbb : ∀ x : Str, x ≠ "__name__" → mb x = bootBuiltins x)
    (hlim : s₁.heap.NoLimit) (hg : s₁.gens = #[])
    (ha : s₁.heap.get? a = some { cls := .type "list", data := .seq vs.toArray }) (hi : IntsAre vs ns) (hl : ns.length ≤ sizeLine) (hr : Room k callerA)
    (F : ∀ base : Heap, K.In base → base.Ns mainGlobals mg → FnG P w K mg base CX0 k fa fd [x] sp)
    (hbind : ∀ (s : Shared) (u : Value), BindsTo s fd ⟨[u], []⟩ [(x, u)])
    (hsp : ∀ H : Hp, Only H → SqL K H a (ns.map V.int) → sp [.ref a] H (fun v _ => v = .bl true) fun _ _ _ => False) :
    codeAny (model P w) callerA (.call (.ref fa) ⟨[.ref a], []⟩)
      (fun r s' => r = .ok (.ret (.bool true)) ∧ OldK s₁.heap s'.heap ∧ s'.os = s₁.os ∧ AllBare s'.gens) s₁ := by
  have rv := vals_ints hi
  have lenV := hi.length
  have main : ∀ H : Hp, Only H → SqL K H a (ns.map V.int) → HOk P w H s₁.heap → (∀ b, H b ≠ none → b = a) → (H a ≠ none → K.lookup a = none) →
      codeAny (model P w) callerA (.call (.ref fa) ⟨[.ref a], []⟩)
        (fun r s' => r = .ok (.ret (.bool true)) ∧ OldK s₁.heap s'.heap ∧ s'.os = s₁.os ∧ AllBare s'.gens) s₁ := by
    intro H hO hS hok hA hK
    have unt : ∀ {b : Addr} {o : Obj}, s₁.heap.get? b = some o → (b = a → False) → H b = none := by
      intro b o e ne
      cases q : H b with
      | none => rfl
      | some u => exact (ne (hA b (by rw [q]; exact Option.some_ne_none _))).elim
    have nsK : ∀ {b : Addr} {m : Str → Option Value}, s₁.heap.Ns b m → (hidT s₁.heap H).Ns b m := by
      intro b m h
      obtain ⟨o, es, ep, e, d, r⟩ := h
      refine ⟨o, es, ep, hidT_get e (unt e fun z => ?_), d, r⟩
      subst z
      rw [ha] at e
      cases e
      cases d
    have hKb : K.In (hidT s₁.heap H) := by
      intro b o e
      refine hidT_get (KX b o e) ?_
      cases q : H b with
      | none => rfl
      | some u =>
        have nb : H b ≠ none := by
          rw [q]
          exact Option.some_ne_none _
        have z := hA b nb
        subst z
        rw [hK nb] at e
        cases e
    have hM : Mod K mg (hidT s₁.heap H) := by
      refine ⟨hKb, nsK hns, ⟨mb, nsK hb, hbb⟩, ?_⟩
      obtain ⟨mc, h1, h2⟩ := hlim
      exact ⟨mc, nsK h1, h2⟩
    have e0 : Env0 P w K mg (hidT s₁.heap H) callerA [] s₁ H :=
      { frames := rfl, mod := hM, bs := fun b o e => of_hidT e, bsz := Nat.le_of_eq (hidT_size _ _), funs := trivial,
        frf := fun b hb => absurd hb List.not_mem_nil, hok := hok, bare := .of_eq hg }
    have run := (F _ hKb (nsK hns)).go callerA rfl [] s₁ H ⟨[.ref a], []⟩ [.ref a] [.ref a] (fun v _ => v = .bl true) (fun _ _ _ => False) hr e0 (hbind s₁ (.ref a)) (.cons rfl .nil) (hsp H hO hS)
    refine codeAny_mono run ?_
    intro r s' h
    cases r with
    | error e => exact False.elim h
    | ok fl => cases fl with
      | next => exact False.elim h
      | brk => exact False.elim h
      | cont => exact False.elim h
      | ret u =>
        obtain ⟨v, H', os, bare, un, hok', r', q⟩ := h
        obtain rfl : v = .bl true := q
        obtain rfl : u = Value.bool true := r'
        refine ⟨rfl, OldK.of_keep ?_, os, bare⟩
        intro b o e
        cases q : H b with
        | none => exact un.keep b o e q List.not_mem_nil List.not_mem_nil
        | some u =>
          cases hO b with
          | inl z =>
            rw [q] at z
            cases z
          | inr z =>
            obtain ⟨ob, xs, z⟩ := z
            obtain ⟨e1, _⟩ := hok b _ z
            obtain ⟨e2, _⟩ := hok' b _ (un.frzs b ob _ z)
            rw [e] at e1
            cases e1
            exact e2
  cases hk : K.lookup a with
  | some o =>
    have e := KX a o hk
    rw [ha] at e
    cases e
    refine main (fun _ => none) (fun _ => Or.inl rfl) (Or.inr ⟨_, vs.toArray, _, hk, rfl, rfl, rfl, ?_, ?_⟩) ?_ (fun b z => absurd rfl z) (fun z => absurd rfl z)
    · rw [List.size_toArray, lenV]
      exact hl
    · simpa using rv
    · intro b u z
      have z' : (none : Option HO) = some u := z
      cases z'
  | none =>
    have hat : ∀ b : Addr, (fun b => if b = a then some (HO.frz { cls := .type "list", data := .seq vs.toArray } (.lst (ns.map V.int))) else none) b ≠ none → b = a := by
      intro b z
      by_cases hb : b = a
      · exact hb
      · exact absurd (if_neg hb) z
    refine main (fun b => if b = a then some (HO.frz { cls := .type "list", data := .seq vs.toArray } (.lst (ns.map V.int))) else none) ?_ (Or.inl (Or.inr ⟨_, if_pos rfl⟩)) ?_ hat (fun _ => hk)
    · intro b
      by_cases hb : b = a
      · exact Or.inr ⟨_, _, if_pos hb⟩
      · exact Or.inl (if_neg hb)
    · intro b u z
      by_cases hb : b = a
      · have z' := (if_pos hb).symm.trans z
        cases z'
        subst hb
        refine ⟨ha, ?_, vs, _, rv, ha⟩
        rw [List.length_map]
        exact hl
      · have z' := (if_neg hb).symm.trans z
        cases z'

/-- the law row from the promise of its def -/
theorem walkG {l : PySem.W.OpenLaw} {n k : Nat} {q : Program} {loose : List Str} {XP : (Str → Option Value) → Heap → Prop} {YP : World → Heap → Prop} {d : DefRec} {K : Params → PySem.W.Frag} {sp : PySem.W.Frag → Sp} {x : Str}
    (hn : l.most = some n) (hn2 : n ≤ sizeLine) (hdf : d.params.defaults = []) (hr : Room k callerA)
    (hY : ∀ (w : World) (h : Heap), YP w h → (K w.params).In h)
    (F : ∀ (w : World) (mg : Str → Option Value) (fa : Addr) (h : Heap), (K w.params).In h → h.Ns mainGlobals mg → mg d.name = some (.ref fa) →
      ∃ fd : FuncData, (∀ (s : Shared) (u : Value), BindsTo s fd ⟨[u], []⟩ [(x, u)]) ∧
        ∀ base : Heap, (K w.params).In base → base.Ns mainGlobals mg → FnG l.prog w (K w.params) mg base CX0 k fa fd [x] (sp (K w.params)))
    (hsp : ∀ (K : PySem.W.Frag) (H : Hp) (a : Addr) (ns : List Int), ns.length ≤ n → Only H → SqL K H a (ns.map V.int) → sp K [.ref a] H (fun v _ => v = .bl true) fun _ _ _ => False) :
    PySem.W.WalkO q loose XP YP l.row.toRowW d [] (fun f vs => PySem.call f vs) := by
  refine Att.attach_call hn hdf ?_
  intro w s₀ s₁ mg mb fa o pm cd doc a vs ns G Y ho hd hcd hmg hobj hints hlen hg
  have KX := hY w _ Y
  obtain ⟨fd, hb, hF⟩ := F w mg fa _ KX G.T.g hmg
  exact law_callG KX G.T.g G.T.b G.T.builtins G.T.nolimit hg hobj hints (Nat.le_trans hlen hn2) hr hF hb (fun H hO hS => hsp _ H a ns hlen hO hS)

/-! ### repr of data -/
section
variable {X : Cx}
theorem call_reprD (hA : X.A.guards = some []) (hu : X.A.units + 64 < cLine) : CallR X (.builtin "repr") (fun xs H Q => ∃ (a : Addr) (d : PyData), xs = [.ref a] ∧ Dp X.K H (.ref a) d ∧
    d.showable = true ∧ d.hasDict = false ∧ d.depth ≤ 60 ∧ d.shown.length ≤ sizeLine ∧ Q (.str d.shown) H) := by
  intro pins s σ H xs us Q I r h
  obtain ⟨a, d, rfl, hd, hs, hn, hdep, hz, q⟩ := h
  obtain ⟨u, rfl, rx⟩ := vals1 r
  cases (show u = Value.ref a from rx)
  obtain ⟨as, rd⟩ := Dp.reads I d _ _ hd rfl
  refine repr_of_reads' rd hs (PyData.noDict_hsm hn) hA (by omega) (fun b o e => e) ?_ hz
  intro h' u tk hk
  exact ⟨.str d.shown, H, I.kept hk, ⟨u, rfl⟩, q⟩
end
end Mf
namespace Mf
open PySem PySem.Spec PyProof.Rows L2
/-- where one stands: the program, the world, what is written, the module's names -/
structure Cn where
  P : Program
  w : World
  K : PySem.W.Frag
  mg : Str → Option Value
  base : Heap
abbrev cnOf (X : Cx) : Cn := ⟨X.prog, X.w, X.K, X.mg, X.base⟩
/-- a def that can be called by its name -/
structure Cl (c : Cn) (k : Nat) (x : Str) (st : Stmt) (ps : List Str) (sp : Sp) : Prop where
  ex : ∃ (f : Addr) (fd : FuncData), FnG c.P c.w c.K c.mg c.base CX0 k f fd ps sp ∧ c.mg x = some (.ref f) ∧ Fun c.K x x st f fd
/-- a def of the text as it stands -/
structure De (c : Cn) (x : Str) (st : Stmt) : Prop where
  ex : ∃ (f : Addr) (fd : FuncData), c.mg x = some (.ref f) ∧ Fun c.K x x st f fd
/-- the arguments written one behind another -/
def Pl (x : Str) (st : Stmt) (ps : List Str) : Prop := ∀ (kV doc pm : Value) (an : Option Addr) (cdv ct : Value) (us : List Value), us.length = ps.length →
  bindArgs (PySem.W.fnOf x x (defArgs st) (defBody st) (defScope st) .none kV doc pm an cdv ct) ⟨us, []⟩ = pure (ps.zip us)
/-- .. by names alone: the names as they are written, and how they are put in order -/
def Pk (x : Str) (st : Stmt) (ps ks : List Str) (g : List Value → List Value) : Prop := ∀ (kV doc pm : Value) (an : Option Addr) (cdv ct : Value) (ws : List Value), ws.length = ks.length →
  bindArgs (PySem.W.fnOf x x (defArgs st) (defBody st) (defScope st) .none kV doc pm an cdv ct) ⟨[], ks.zip ws⟩ = pure (ps.zip (g ws))

theorem De.cl {c : Cn} {x : Str} {st : Stmt} {N ps : List Str} {k : Nat} {sp : Sp} (D : De c x st) (S : FnScope N ps (defScope st))
    (len : ∀ vs H Q E, sp vs H Q E → vs.length = ps.length)
    (hbody : ∀ (f : Addr) (cdv : Value) (A : Around) (outer : List Env) (s : Shared) (H : Hp) (vs : List V) (Q : VK) (E : XK),
      (A.deeper (envOfC x (defScope st) s.heap.objs.size f cdv)).guards = some [] →
      Room k (A.deeper (envOfC x (defScope st) s.heap.objs.size f cdv)) → sp vs H Q E →
      ∃ t, PSs (cxOf CX0 c.P c.w c.K c.mg c.base N x (defScope st) f cdv A outer s H E).nox (defBody st) t ∧
        t { nx := fun _ H' => Q .non H', rt := Q } (start N vs) H) : Cl c (k + 1) x st ps sp := by
  obtain ⟨f, fd, hm, F⟩ := D.ex
  exact ⟨f, fd, okG F S len (hbody f), hm, F⟩

section
variable {X : Cx} {k j : Nat} {f : Addr} {ps ks : List Str} {sp : Sp} {x : Str} {p pos : Pos} {e : Expr} {es : List Expr} {t tk : TA} {st : Stmt} {kws : List Keyword}
def tCl (sp : Sp) (t : TA) : TE := fun σ H Q => t σ H fun vs H1 => sp vs H1 Q E0
def tClK (sp : Sp) (g : List V → List V) (t : TA) : TE := fun σ H Q => t σ H fun vs H1 => sp (g vs) H1 Q E0
/-- f(e, ..) -/
theorem pe_f (c : Cl (cnOf X) k x st ps sp) (hA : X.A.guards = some []) (hr : Room j X.A) (hk : k ≤ j) (hp : Pl x st ps) (hg : Gl X x) (ha : PA X (e :: es) t)
    (hdb : (x == ("__debug__" : Str)) = false := by decide) (he : starEach (e :: es) X.env = (false, eval e X.env) :: starEach es X.env := by rfl)
    (hpl : (backTo pos (starEach es X.env)).any (·.1) = false := by rfl) : PE X (.Call (.Name x p) (e :: es) [] pos) (tCl sp t) := by
  obtain ⟨f, fd, F, hm, W⟩ := c.ex
  exact pe_callG F hA (hr.mono hk) hg hm W.kp (W.binds hp) pass0 ha hdb he hpl
/-- f(k = e, ..) -/
theorem pe_fk {g : List Value → List Value} {gV : List V → List V} (c : Cl (cnOf X) k x st ps sp) (hA : X.A.guards = some []) (hr : Room j X.A) (hk : k ≤ j) (hp : Pk x st ps ks g)
    (rel : ∀ {vs : List V} {us : List Value}, Vals vs us → us.length = ks.length → Vals (gV vs) (g us)) (hl : ∀ vs : List V, (gV vs).length = ps.length → vs.length = ks.length) (hg : Gl X x) (hkw : PK X kws tk)
    (hall : (backToKw pos (keywordEach kws X.env)).all (·.1.isSome) = true := by rfl) (hks : (backToKw pos (keywordEach kws X.env)).filterMap (·.1) = ks := by rfl)
    (hdb : (x == ("__debug__" : Str)) = false := by decide)
    (hpl : ((backTo pos (starEach [] X.env)).any (·.1) || (backToKw pos (keywordEach kws X.env)).any (·.1.isNone)) = false := by rfl) :
    PE X (.Call (.Name x p) [] kws pos) (tClK sp gV tk) := by
  obtain ⟨f, fd, F, hm, W⟩ := c.ex
  refine ⟨fun pins s σ H Q I h => ?_⟩
  refine wpAny_Call_Name_kw (ld_glob I hg hm ?_ hdb)
  refine PySem.W.callWith_KW0 (h₀ := X.base) I.ok.mod.kin W.kp hall (thn (hkw.run pos pins s σ H _ I h) ?_) hpl
  intro ws s2 ⟨zs, H2, I2, rz, q2⟩
  refine ⟨I2.kIn, ?_⟩
  rw [hks]
  have l0 := F.size _ _ _ _ q2
  have l1 : ws.length = ks.length := by
    rw [← rz.length]
    exact hl _ l0
  have r2 := rel rz l1
  have hb : BindsTo s2 fd ⟨[], ks.zip ws⟩ (ps.zip (g ws)) := by
    obtain ⟨oc, od, kV, doc, pm, an, cdv, ct, osl, rfl, lk, hcd⟩ := W.ex
    exact .of_eq (hp kV doc pm an cdv ct ws l1)
  refine wpAny_call (codeAny_mono (F.go X.A hA X.stack s2 H2 ⟨[], ks.zip ws⟩ (g ws) (gV zs) Q E0 (hr.mono hk) I2.env0 hb r2 q2) ?_)
  intro r s' hq
  cases r with
  | error e => exact pass0 pins σ H2 s2 e s' I2 hq
  | ok fl => cases fl with
    | ret u => exact I2.after hq
    | next => exact hq.elim
    | brk => exact hq.elim
    | cont => exact hq.elim
end

/-! ### operators for whatever comes -/
section
variable {X : Cx}
theorem OpR_or {f : Value → Value → Sem Value} {r r' : R2} (h : OpR X f r) (h' : OpR X f r') : OpR X f (fun x y H Q => r x y H Q ∨ r' x y H Q) := by
  intro pins s σ H x y v u Q I rx ry q
  cases q with
  | inl q => exact h pins s σ H x y v u Q I rx ry q
  | inr q => exact h' pins s σ H x y v u Q I rx ry q
def CMulU (i j : Int) : Prop := CMul i j ∨ CMulW i j
theorem op_mulI : OpR X (binaryOp .Mult) (rI CMulU fun i j => .int (i * j)) := by
  intro pins s σ H x y v u Q I rx ry q
  obtain ⟨i, j, e1, e2, c, q⟩ := q
  cases c with
  | inl c => exact op_mul pins s σ H x y v u Q I rx ry ⟨i, j, e1, e2, c, q⟩
  | inr c => exact op_mulW pins s σ H x y v u Q I rx ry ⟨i, j, e1, e2, c, q⟩
def rAddU : R2 := fun x y H Q => rI0 (fun i j => .int (i + j)) x y H Q ∨ rCat x y H Q
theorem op_addU : OpR X (binaryOp .Add) rAddU := OpR_or op_add op_cat
def rMulU : R2 := fun x y H Q => rI CMulU (fun i j => .int (i * j)) x y H Q ∨ rRep x y H Q
theorem op_mulU : OpR X (binaryOp .Mult) rMulU := OpR_or op_mulI op_rep
def rEqU (K : PySem.W.Frag) : R2 := fun x y H Q => rEq x y H Q ∨ rEqD K x y H Q
def rNeU (K : PySem.W.Frag) : R2 := fun x y H Q => rNe x y H Q ∨ rNeD K x y H Q
theorem op_eqU (hu : X.A.units + 64 < cLine) : OpR X (compareOp .Eq) (rEqU X.K) := OpR_or op_eq (op_eqD hu)
theorem op_neU (hu : X.A.units + 64 < cLine) : OpR X (compareOp .NotEq) (rNeU X.K) := OpR_or op_ne (op_neD hu)
/-- is of a bool that is written -/
def rIsT (b : Bool) : R2 := fun x y H Q => y = .bl b ∧ ((∃ a, x = .bl a ∧ Q (.bl (decide (a = b))) H) ∨ (∃ i, x = .int i ∧ Q (.bl false) H))
def rNotT (b : Bool) : R2 := fun x y H Q => y = .bl b ∧ ((∃ a, x = .bl a ∧ Q (.bl (!decide (a = b))) H) ∨ (∃ i, x = .int i ∧ Q (.bl true) H))
theorem op_notT {b : Bool} : OpR X (compareOp .IsNot) (rNotT b) := by
  intro pins s σ H x y v u Q I rx ry h
  obtain ⟨rfl, h⟩ := h
  rcases h with ⟨a, rfl, q⟩ | ⟨i, rfl, q⟩
  · exact op_notBl pins s σ H _ _ v u Q I rx ry ⟨a, b, rfl, rfl, q⟩
  · obtain ⟨t, rfl⟩ := rx
    cases (show u = Value.bool b from ry)
    exact wpAny_isNot_other rfl (fun z => Value.noConfusion z) ⟨.bl true, H, I, rfl, q⟩
/-- is None, is not None -/
def rIsN : R2 := fun x y H Q => y = .non ∧ Q (.bl (decide (x = .non))) H
def rNotN : R2 := fun x y H Q => y = .non ∧ Q (.bl (!decide (x = .non))) H
theorem op_isNU : OpR X (compareOp .Is) rIsN := op_isN
theorem op_notNU : OpR X (compareOp .IsNot) rNotN := op_notN

/-- what a for walks: one rule or another -/
theorem pi_or {tg it : Expr} {w1 w2 : TI} (h1 : PI X tg it w1) (h2 : PI X tg it w2) : PI X tg it (fun σ H R => w1 σ H R ∨ w2 σ H R) := by
  refine ⟨fun pins s σ H R I h => ?_⟩
  cases h with
  | inl h => exact h1.run pins s σ H R I h
  | inr h => exact h2.run pins s σ H R I h
end

/-! ### isinstance(e, (list, tuple)): the tuple of classes is not tracked -/
def tSeqP (K : PySem.W.Frag) (te : TE) : TE := fun σ H Q => te σ H fun x H1 => ∃ t b, TyX K H1 x (.type t) ∧ PySem.W.kitAny K (.type t) [.type "list", .type "tuple"] = some b ∧ Q (.bl b) H1
section
variable {X : Cx} {e : Expr} {te : TE} {p p1 p2 pt pos : Pos} {kt : Nat}
theorem pe_isSeq (hg : Gl X "isinstance") (hm : X.mg "isinstance" = none) (hg1 : Gl X "list") (hm1 : X.mg "list" = none) (hg2 : Gl X "tuple") (hm2 : X.mg "tuple" = none) (he : PE X e te)
    (hs : starEach [e, .Tuple [.Name "list" p1, .Name "tuple" p2] kt pt] X.env = [(false, eval e X.env), (false, eval (.Tuple [.Name "list" p1, .Name "tuple" p2] kt pt) X.env)] := by rfl)
    (hi : starEach [.Name "list" p1, .Name "tuple" p2] X.env = [(false, eval (.Name "list" p1) X.env), (false, eval (.Name "tuple" p2) X.env)] := by rfl) :
    PE X (.Call (.Name "isinstance" p) [e, .Tuple [.Name "list" p1, .Name "tuple" p2] kt pt] [] pos) (tSeqP X.K te) := by
  refine ⟨fun pins s σ H Q I h => ?_⟩
  have hv : bootBuiltins "isinstance" = some (.builtin "isinstance") := by decide +kernel
  refine wpAny_Call_Name_kw (ld_blt I hg hm hv ?_ (by decide) (by decide))
  refine PyProof.Rows.callWith_builtin1 ?_ (by rw [hs]; rfl) (by rfl)
  rw [hs]
  show wpAny _ _ (spliced ((false, eval e X.env) :: backTo pos [(false, eval (.Tuple [.Name "list" p1, .Name "tuple" p2] kt pt) X.env)])) _ _ s
  refine Calls.spliced_cons (thn (he.run pins s σ H _ I h) ?_)
  intro u s1 ⟨x, H1, I1, r1, t, b, ty, kt', q⟩
  refine Calls.spliced_cons (wpAny_mono (Q := fun v s2 => v = .ref s1.heap.objs.size ∧ s2 = { s1 with heap := s1.heap.push { cls := .type "tuple", data := .seq [Value.type "list", Value.type "tuple"].toArray } }) ?_ ?_ (fun _ _ z => z))
  · refine wpAny_Tuple_spliced (x1 := kt) ?_
    rw [hi]
    show wpAny _ _ (spliced ((false, eval (.Name "list" p1) X.env) :: backTo pt [(false, eval (.Name "tuple" p2) X.env)])) _ _ s1
    refine Calls.spliced_cons (ld_blt I1 hg1 hm1 PyProof.Rows.boot_list ?_ (by decide) (by decide))
    refine Calls.spliced_cons (ld_blt I1 hg2 hm2 PyProof.Rows.boot_tuple ?_ (by decide) (by decide))
    refine Calls.spliced_nil ?_
    exact ⟨by show 2 ≤ sizeLine; decide, rfl, rfl⟩
  · intro v s2 hv
    obtain ⟨rfl, rfl⟩ := hv
    refine Calls.spliced_nil ?_
    have I2 := I1.kept (h' := s1.heap.push { cls := .type "tuple", data := .seq [Value.type "list", Value.type "tuple"].toArray }) (t' := s1.toks) (fun b u e => Heap.get?_push_of_some _ e)
    obtain ⟨Pz, Z, pz, hx⟩ := kit_of I2 r1 ty
    exact PySem.W.kia_tup Z I2.kIn pz (Heap.get?_push_size _ rfl) kt' hx fun tk => ⟨.bl b, H1, I2.tok tk, rfl, q⟩
end
end Mf
namespace Mf
open PySem PySem.Spec PyProof.Rows L2

/-! ### readings, step by step -/
section
variable {K : PySem.W.Frag} {σ : L2.St} {H : Hp} {Q : VK} {v x y : V} {ta tb te : TE} {t u tt : TT} {tr : TA} {r : R2} {D : Ends} {t1 t2 : TS}
theorem g_var {i : Nat} (h : σ[i]? = some (some v)) (q : Q v H) : tVar i σ H Q := ⟨v, h, q⟩
theorem g_c (q : Q v H) : tC v σ H Q := q
theorem g_op (q : ta σ H fun x H1 => tb σ H1 fun y H2 => r x y H2 Q) : tOp r ta tb σ H Q := q
theorem g_un {r : V → Hp → VK → Prop} (q : ta σ H fun x H1 => r x H1 Q) : tUn r ta σ H Q := q
theorem g_cb {r : List V → Hp → VK → Prop} (q : tr σ H fun vs H1 => r vs H1 Q) : tCB r tr σ H Q := q
theorem g_cl {sp : Sp} (q : tr σ H fun vs H1 => sp vs H1 Q E0) : tCl sp tr σ H Q := q
theorem g_clk {sp : Sp} {g : List V → List V} (q : tr σ H fun vs H1 => sp (g vs) H1 Q E0) : tClK sp g tr σ H Q := q
theorem g_nil {R : List V → Hp → Prop} (q : R [] H) : tNil σ H R := q
theorem g_cons {R : List V → Hp → Prop} (q : ta σ H fun x H1 => tr σ H1 fun xs H2 => R (x :: xs) H2) : tCons ta tr σ H R := q
theorem g_tB {R : Bool → Hp → Prop} (q : te σ H fun x H1 => ∃ c, x = .bl c ∧ R c H1) : tB te σ H R := q
theorem g_test {R : Bool → Hp → Prop} (q : te σ H fun x H1 => ∃ c, x = .bl c ∧ R c H1) : tTest te σ H R := q
theorem g_bl {b : Bool} {R : Bool → Prop} (q : R b) : ∃ c, V.bl b = .bl c ∧ R c := ⟨b, rfl, q⟩
theorem g_and {R : Bool → Hp → Prop} (q : t σ H fun c H1 => if c = true then u σ H1 R else R false H1) : tAnd t u σ H R := q
theorem g_or {R : Bool → Hp → Prop} (q : t σ H fun c H1 => if c = true then R true H1 else u σ H1 R) : tOr t u σ H R := q
theorem g_not {R : Bool → Hp → Prop} (q : t σ H fun c H1 => R (!c) H1) : tNot t σ H R := q
theorem g_andV (q : ta σ H fun x H1 => ∃ c, x = .bl c ∧ if c = true then tb σ H1 Q else Q (.bl false) H1) : tAndV ta tb σ H Q := q
theorem g_orV (q : ta σ H fun x H1 => ∃ c, x = .bl c ∧ if c = true then Q (.bl true) H1 else tb σ H1 Q) : tOrV ta tb σ H Q := q
theorem g_notV (q : ta σ H fun x H1 => ∃ c, x = .bl c ∧ Q (.bl (!c)) H1) : tNotV ta σ H Q := q
theorem g_if (q : t σ H fun c H1 => if c = true then ta σ H1 Q else tb σ H1 Q) : tIf t ta tb σ H Q := q
theorem g_ifS (q : t σ H fun b H1 => if b = true then t1 D σ H1 else t2 D σ H1) : tIfS t t1 t2 D σ H := q
theorem g_seq (q : t1 ⟨t2 D, D.rt, D.bk, D.ct⟩ σ H) : tSeq t1 t2 D σ H := q
theorem g_next (q : D.nx σ H) : tNext D σ H := q
theorem g_ret (q : te σ H D.rt) : tRet te D σ H := q
theorem g_drop (q : te σ H fun _ H1 => D.nx σ H1) : tDrop te D σ H := q
theorem g_asg {g : TG} (q : te σ H fun x H1 => g x σ H1 D.nx) : tAsg te g D σ H := q
theorem g_name {i : Nat} {R : L2.St → Hp → Prop} (q : R (σ.set i (some v)) H) : gName i v σ H R := q
theorem g_I0 {g : Int → Int → V} {i j : Int} (q : Q (g i j) H) : rI0 g (.int i) (.int j) H Q := ⟨i, j, rfl, rfl, q⟩
theorem g_I {C : Int → Int → Prop} {g : Int → Int → V} {i j : Int} (c : C i j) (q : Q (g i j) H) : rI C g (.int i) (.int j) H Q := ⟨i, j, rfl, rfl, c, q⟩
theorem g_addI {i j : Int} (q : Q (.int (i + j)) H) : rAddU (.int i) (.int j) H Q := .inl ⟨i, j, rfl, rfl, q⟩
theorem g_mulI {i j : Int} (c : CMulU i j) (q : Q (.int (i * j)) H) : rMulU (.int i) (.int j) H Q := .inl ⟨i, j, rfl, rfl, c, q⟩
theorem g_U {g : Int → V} {i : Int} (q : Q (g i) H) : rU g (.int i) H Q := ⟨i, rfl, q⟩
theorem g_isN (q : Q (.bl (decide (x = .non))) H) : rIsN x .non H Q := ⟨rfl, q⟩
theorem g_notN (q : Q (.bl (!decide (x = .non))) H) : rNotN x .non H Q := ⟨rfl, q⟩
theorem g_notTb {a b : Bool} (q : Q (.bl (!decide (a = b))) H) : rNotT b (.bl a) (.bl b) H Q := ⟨rfl, .inl ⟨a, rfl, q⟩⟩
theorem g_notT1 (q : Q (.bl false) H) : rNotT true (.bl true) (.bl true) H Q := ⟨rfl, .inl ⟨true, rfl, q⟩⟩
theorem g_notT2 (q : Q (.bl true) H) : rNotT true (.bl false) (.bl true) H Q := ⟨rfl, .inl ⟨false, rfl, q⟩⟩
theorem g_notT3 (q : Q (.bl true) H) : rNotT false (.bl true) (.bl false) H Q := ⟨rfl, .inl ⟨true, rfl, q⟩⟩
theorem g_notT4 (q : Q (.bl false) H) : rNotT false (.bl false) (.bl false) H Q := ⟨rfl, .inl ⟨false, rfl, q⟩⟩
theorem g_notTi {i : Int} {b : Bool} (q : Q (.bl true) H) : rNotT b (.int i) (.bl b) H Q := ⟨rfl, .inr ⟨i, rfl, q⟩⟩
theorem g_eqI {i j : Int} (q : Q (.bl (decide (i = j))) H) : rEqU K (.int i) (.int j) H Q := .inl ⟨rfl, by
  have e : decide (V.int i = V.int j) = decide (i = j) := by
    by_cases h : i = j
    · subst h; simp
    · simp [h]
  rw [e]; exact q⟩
theorem g_neI {i j : Int} (q : Q (.bl (!decide (i = j))) H) : rNeU K (.int i) (.int j) H Q := .inl ⟨rfl, by
  have e : decide (V.int i = V.int j) = decide (i = j) := by
    by_cases h : i = j
    · subst h; simp
    · simp [h]
  rw [e]; exact q⟩
theorem g_neS {a b : Str} (q : Q (.bl (!decide (a = b))) H) : rNeU K (.str a) (.str b) H Q := .inl ⟨rfl, by
  have e : decide (V.str a = V.str b) = decide (a = b) := by
    by_cases h : a = b
    · subst h; simp
    · simp [h]
  rw [e]; exact q⟩
theorem g_eqS {a b : Str} (q : Q (.bl (decide (a = b))) H) : rEqU K (.str a) (.str b) H Q := .inl ⟨rfl, by
  have e : decide (V.str a = V.str b) = decide (a = b) := by
    by_cases h : a = b
    · subst h; simp
    · simp [h]
  rw [e]; exact q⟩
theorem g_iteT {A B : Prop} (h : A) : if true = true then A else B := iteT h
theorem g_iteF {A B : Prop} (h : B) : if false = true then A else B := iteF h
theorem g_iteNT {A B : Prop} (h : B) : if (!true) = true then A else B := iteF h
theorem g_iteNF {A B : Prop} (h : A) : if (!false) = true then A else B := iteT h
theorem g_ite {b : Bool} {A B : Prop} (h1 : b = true → A) (h2 : b = false → B) : if b = true then A else B := by
  cases b with
  | true => exact iteT (h1 rfl)
  | false => exact iteF (h2 rfl)
/-- a new list, a new tuple -/
theorem same_new {H : Hp} {p : Addr} {o : HO} (h : H p = none) : Same H (upd H p o) := fun b z e => by
  rw [upd_ne (ne_of_none e h)]
  exact e
/-- a new list, a new tuple is laid -/
def NewL (xs : List V) (H : Hp) (Q : VK) : Prop := xs.length ≤ sizeLine ∧ ∀ p, H p = none → Q (.ref p) (upd H p (.lst xs))
def NewT (xs : List V) (H : Hp) (Q : VK) : Prop := xs.length ≤ sizeLine ∧ ∀ p, H p = none → Q (.ref p) (upd H p (.tup xs))
theorem g_newL {xs : List V} (hl : xs.length ≤ sizeLine) (q : ∀ p H2, H p = none → Same H H2 → H2 p = some (.lst xs) → Q (.ref p) H2) : NewL xs H Q :=
  ⟨hl, fun p hp => q p _ hp (same_new hp) upd_same⟩
theorem g_newT {xs : List V} (hl : xs.length ≤ sizeLine) (q : ∀ p H2, H p = none → Same H H2 → H2 p = some (.tup xs) → Q (.ref p) H2) : NewT xs H Q :=
  ⟨hl, fun p hp => q p _ hp (same_new hp) upd_same⟩
theorem g_lst (q : tr σ H fun xs H1 => NewL xs H1 Q) : tLst tr σ H Q := q
theorem g_tup (q : tr σ H fun xs H1 => NewT xs H1 Q) : tTup tr σ H Q := q
/-- a list and a list, one behind another -/
theorem g_cat {l b : Addr} {xs zs : List V} (h1 : H l = some (.lst xs)) (h2 : H b = some (.lst zs)) (hz : xs.length + zs.length ≤ sizeLine)
    (q : ∀ p H2, H p = none → Same H H2 → H2 p = some (.lst (xs ++ zs)) → Q (.ref p) H2) : rAddU (.ref l) (.ref b) H Q :=
  .inr ⟨l, b, xs, zs, rfl, rfl, h1, h2, hz, fun p hp => q p _ hp (same_new hp) upd_same⟩
theorem g_rep {l : Addr} {k : Int} {xs : List V} (h1 : H l = some (.lst xs)) (k0 : 0 ≤ k) (k1 : k ≤ 1000) (hz : xs.length * k.toNat ≤ sizeLine)
    (q : ∀ p H2, H p = none → Same H H2 → H2 p = some (.lst (List.replicate k.toNat xs).flatten) → Q (.ref p) H2) : rMulU (.ref l) (.int k) H Q :=
  .inr ⟨l, k, xs, rfl, rfl, h1, by omega, by omega, hz, fun p hp => q p _ hp (same_new hp) upd_same⟩
/-- built-in functions, their readings by name -/
def rIntU : List V → Hp → VK → Prop := fun xs H Q => (∃ i, xs = [.int i] ∧ Q (.int i) H) ∨ ∃ k, xs = [.bl k] ∧ Q (.int (if k then 1 else 0)) H
theorem call_intU {X : Cx} : CallR X (.type "int") rIntU := call_int1
def rAbsU : List V → Hp → VK → Prop := fun xs H Q => ∃ i, xs = [.int i] ∧ Q (.int (if i < 0 then -i else i)) H
theorem call_absU {X : Cx} : CallR X (.builtin "abs") rAbsU := call_abs
def rLenU (K : PySem.W.Frag) : List V → Hp → VK → Prop := fun xs H Q => ∃ x n, xs = [x] ∧ LenV K x H n ∧ Q (.int (n : Nat)) H
theorem call_lenU {X : Cx} : CallR X (.builtin "len") (rLenU X.K) := call_len
def rReprU (K : PySem.W.Frag) : List V → Hp → VK → Prop := fun xs H Q => ∃ (v : V) (d : PyData), xs = [v] ∧ Dp K H v d ∧
    d.showable = true ∧ d.hasDict = false ∧ d.depth ≤ 60 ∧ d.shown.length ≤ sizeLine ∧ Q (.str d.shown) H
theorem call_reprU {X : Cx} (hA : X.A.guards = some []) (hu : X.A.units + 64 < cLine) : CallR X (.builtin "repr") (rReprU X.K) := by
  intro pins s σ H xs us Q I r h
  obtain ⟨v, d, rfl, hd, hs, hn, hdep, hz, q⟩ := h
  have arm := @call_reprD X hA hu pins s σ H [v] us Q I r
  obtain ⟨u, rfl, rx⟩ := vals1 r
  cases hd with
  | non =>
    cases (show u = Value.none from rx)
    exact PySem.P.repr_of_none ⟨.str _, H, I.tok _, ⟨_, rfl⟩, q⟩
  | bl b =>
    cases (show u = Value.bool b from rx)
    exact PySem.P.repr_of_bool ⟨.str _, H, I.tok _, ⟨_, rfl⟩, q⟩
  | int i =>
    obtain ⟨t, rfl⟩ := (show ∃ t, u = Value.int i t from rx)
    exact PySem.P.repr_of_int (of_decide_eq_true hs) ⟨.str _, H, I.tok _, ⟨_, rfl⟩, q⟩
  | str x =>
    obtain ⟨t, rfl⟩ := (show ∃ t, u = Value.str x t from rx)
    exact PySem.P.repr_of_str ⟨.str _, H, I.tok _, ⟨_, rfl⟩, q⟩ hz
  | lst h1 h2 => exact arm ⟨_, _, rfl, .lst h1 h2, hs, hn, hdep, hz, q⟩
  | tup h1 h2 => exact arm ⟨_, _, rfl, .tup h1 h2, hs, hn, hdep, hz, q⟩
theorem g_int {i : Int} (q : Q (.int i) H) : rIntU [.int i] H Q := .inl ⟨i, rfl, q⟩
theorem g_intB {k : Bool} (q : Q (.int (if k then 1 else 0)) H) : rIntU [.bl k] H Q := .inr ⟨k, rfl, q⟩
theorem g_abs {i : Int} (q : Q (.int (if i < 0 then -i else i)) H) : rAbsU [.int i] H Q := ⟨i, rfl, q⟩
theorem g_isNn (q : Q (.bl true) H) : rIsN .non .non H Q := ⟨rfl, q⟩
theorem g_isNi {i : Int} (q : Q (.bl false) H) : rIsN (.int i) .non H Q := ⟨rfl, by simpa using q⟩
theorem g_repr {d : PyData} (h : Dp K H v d) (h1 : d.showable = true) (h2 : d.hasDict = false) (h3 : d.depth ≤ 60) (h4 : d.shown.length ≤ sizeLine) (q : Q (.str d.shown) H) : rReprU K [v] H Q :=
  ⟨v, d, rfl, h, h1, h2, h3, h4, q⟩
end

/-! ### what is kept but at q -/
structure SameX (q : Addr) (H H' : Hp) : Prop where
  kept : ∀ b o, b ≠ q → H b = some o → H' b = some o
  cell : ∀ c t r, H q = some (.lst [.ref c, t, r]) → ∃ t' r', H' q = some (.lst [.ref c, t', r'])
instance {q : Addr} {H H' : Hp} : CoeFun (SameX q H H') (fun _ => ∀ b o, b ≠ q → H b = some o → H' b = some o) := ⟨SameX.kept⟩
theorem Same.x {q : Addr} {H H' : Hp} (s : Same H H') : SameX q H H' := ⟨fun b o _ e => s b o e, fun c t r e => ⟨t, r, s _ _ e⟩⟩
theorem SameX.refl (q : Addr) (H : Hp) : SameX q H H := ⟨fun _ _ _ e => e, fun c t r e => ⟨t, r, e⟩⟩
theorem SameX.trans {q : Addr} {H H1 H2 : Hp} (a : SameX q H H1) (b : SameX q H1 H2) : SameX q H H2 := ⟨fun c o n e => b.kept c o n (a.kept c o n e), fun c t r e => by
  obtain ⟨t1, r1, e1⟩ := a.cell c t r e
  exact b.cell c t1 r1 e1⟩
theorem SameX.rd {q a : Addr} {H H' : Hp} {u : HO} (s : SameX q H H') (n : a ≠ q) (h : Rd H a u) : Rd H' a u := by
  rcases h with h | ⟨o, h⟩
  · exact .inl (s _ _ n h)
  · exact .inr ⟨o, s _ _ n h⟩
theorem SameX.seq {K : PySem.W.Frag} {q a : Addr} {H H' : Hp} {xs : List V} (s : SameX q H H') (n : a ≠ q) (h : SqL K H a xs) : SqL K H' a xs := by
  rcases h with h | h
  · exact .inl (s.rd n h)
  · exact .inr h
theorem SameX.tup {K : PySem.W.Frag} {q a : Addr} {H H' : Hp} {xs : List V} (s : SameX q H H') (n : a ≠ q) (h : SqT K H a xs) : SqT K H' a xs := by
  rcases h with h | h
  · exact .inl (s.rd n h)
  · exact .inr h
theorem seqU {K : PySem.W.Frag} {H : Hp} {a : Addr} {xs : List V} (h : H a = some (.lst xs)) : SqL K H a xs := .inl (.inl h)
theorem tupU {K : PySem.W.Frag} {H : Hp} {a : Addr} {xs : List V} (h : H a = some (.tup xs)) : SqT K H a xs := .inl (.inl h)

/-! ### what a value tells: any value of the laws' menus -/
mutual
inductive Dq (q : Addr) (K : PySem.W.Frag) (H : Hp) : V → PyData → Prop
  | non : Dq q K H .non .none
  | bl (b : Bool) : Dq q K H (.bl b) (.bool b)
  | int (i : Int) : Dq q K H (.int i) (.int i)
  | str (x : Str) : x.length ≤ 1000 → Dq q K H (.str x) (.str x)
  | lst {a : Addr} {xs : List V} {ds : List PyData} : a ≠ q → SqL K H a xs → DqAll q K H xs ds → Dq q K H (.ref a) (.list ds)
  | tup {a : Addr} {xs : List V} {ds : List PyData} : a ≠ q → SqT K H a xs → DqAll q K H xs ds → Dq q K H (.ref a) (.tuple ds)
  | dct {a : Addr} {kvs : List (Key × V)} : a ≠ q → H a = some (.dK kvs) → Dq q K H (.ref a) (.dict [])
inductive DqAll (q : Addr) (K : PySem.W.Frag) (H : Hp) : List V → List PyData → Prop
  | nil : DqAll q K H [] []
  | cons {v : V} {vs : List V} {d : PyData} {ds : List PyData} : Dq q K H v d → DqAll q K H vs ds → DqAll q K H (v :: vs) (d :: ds)
end
section
variable {q : Addr} {K : PySem.W.Frag} {H H' : Hp}
mutual
theorem Dq.go (s : SameX q H H') : ∀ {d : PyData} {v : V}, Dq q K H v d → Dq q K H' v d
  | _, _, .non => .non
  | _, _, .bl b => .bl b
  | _, _, .int i => .int i
  | _, _, .str x h => .str x h
  | _, _, .lst n h ha => .lst n (s.seq n h) (DqAll.go s ha)
  | _, _, .tup n h ha => .tup n (s.tup n h) (DqAll.go s ha)
  | _, _, .dct n h => .dct n (s _ _ n h)
theorem DqAll.go (s : SameX q H H') : ∀ {ds : List PyData} {vs : List V}, DqAll q K H vs ds → DqAll q K H' vs ds
  | _, _, .nil => .nil
  | _, _, .cons h t => .cons (Dq.go s h) (DqAll.go s t)
end
theorem DqAll.len : ∀ {vs : List V} {ds : List PyData}, DqAll q K H vs ds → vs.length = ds.length
  | _, _, .nil => rfl
  | _, _, .cons _ t => congrArg Nat.succ (DqAll.len t)
def noDct : PyData → Bool
  | .dict _ => false
  | .list ds | .tuple ds => all ds
  | _ => true
where all : List PyData → Bool
  | [] => true
  | d :: ds => noDct d && all ds
mutual
theorem Dq.dp : ∀ {d : PyData} {v : V}, Dq q K H v d → noDct d = true → Dp K H v d
  | _, _, .non, _ => .non
  | _, _, .bl b, _ => .bl b
  | _, _, .int i, _ => .int i
  | _, _, .str x h, _ => .str x
  | .list ds, _, .lst n h ha, e => .lst h (DqAll.dp ha (by unfold noDct at e; exact e))
  | .tuple ds, _, .tup n h ha, e => .tup h (DqAll.dp ha (by unfold noDct at e; exact e))
  | _, _, .dct n h, e => by unfold noDct at e; exact absurd e (by decide)
theorem DqAll.dp : ∀ {ds : List PyData} {vs : List V}, DqAll q K H vs ds → noDct.all ds = true → DpAll K H vs ds
  | _, _, .nil, _ => .nil
  | d :: ds, _, .cons h t, e => by
    unfold noDct.all at e
    rw [Bool.and_eq_true] at e
    exact .cons (Dq.dp h e.1) (DqAll.dp t e.2)
end
def tyN : PyData → String
  | .none => "NoneType"
  | .bool _ => "bool"
  | .int _ => "int"
  | .str _ => "str"
  | .list _ => "list"
  | .tuple _ => "tuple"
  | .dict _ => "dict"
theorem Dq.ty {d : PyData} {v : V} (h : Dq q K H v d) : TyX K H v (.type (tyN d)) := by
  cases h with
  | non => exact .base .non
  | bl b => exact .base (.bl b)
  | int i => exact .base (.int i)
  | str x => exact .base (.str x)
  | lst n h ha =>
    rcases h with (h | ⟨o, h⟩) | ⟨o, its, m, e, c, _⟩
    · exact .base (.lst h)
    · exact .base (.frz h)
    · exact .kList e c
  | tup n h ha =>
    rcases h with (h | ⟨o, h⟩) | ⟨o, its, m, e, c, _⟩
    · exact .base (.tup h)
    · exact .fTuple h
    · exact .kTuple e c
  | dct n h => exact .base (.dK h)
def isSeqD : PyData → Bool
  | .list _ | .tuple _ => true
  | _ => false
def isIntB : PyData → Bool
  | .int _ | .bool _ => true
  | _ => false
def isIntD : PyData → Bool
  | .int _ => true
  | _ => false
def posD : PyData → Bool
  | .int i => decide (1 ≤ i)
  | _ => false
def isFrD : PyData → Bool
  | .int _ => true
  | .list [a, b] | .tuple [a, b] => isIntD a && posD b
  | _ => false
theorem kit_seq (d : PyData) : PySem.W.kitAny K (.type (tyN d)) [.type "list", .type "tuple"] = some (isSeqD d) := by
  cases d with
  | none => exact kitAny_cons (b := false) (r := false) (kit_ty (show kitB "NoneType" "list" = some false by decide +kernel)) (fun _ => kitAny_cons (b := false) (r := false) (kit_ty (show kitB "NoneType" "tuple" = some false by decide +kernel)) (fun _ => kitAny_nil) (fun z => by cases z)) (fun z => by cases z)
  | bool _ => exact kitAny_cons (b := false) (r := false) (kit_ty (show kitB "bool" "list" = some false by decide +kernel)) (fun _ => kitAny_cons (b := false) (r := false) (kit_ty (show kitB "bool" "tuple" = some false by decide +kernel)) (fun _ => kitAny_nil) (fun z => by cases z)) (fun z => by cases z)
  | int _ => exact kitAny_cons (b := false) (r := false) (kit_ty (show kitB "int" "list" = some false by decide +kernel)) (fun _ => kitAny_cons (b := false) (r := false) (kit_ty (show kitB "int" "tuple" = some false by decide +kernel)) (fun _ => kitAny_nil) (fun z => by cases z)) (fun z => by cases z)
  | str _ => exact kitAny_cons (b := false) (r := false) (kit_ty (show kitB "str" "list" = some false by decide +kernel)) (fun _ => kitAny_cons (b := false) (r := false) (kit_ty (show kitB "str" "tuple" = some false by decide +kernel)) (fun _ => kitAny_nil) (fun z => by cases z)) (fun z => by cases z)
  | list _ => exact kitAny_cons (b := true) (r := true) (kit_ty (show kitB "list" "list" = some true by decide +kernel)) (fun z => by cases z) (fun _ => rfl)
  | tuple _ => exact kitAny_cons (b := false) (r := true) (kit_ty (show kitB "tuple" "list" = some false by decide +kernel)) (fun _ => kitAny_cons (b := true) (r := true) (kit_ty (show kitB "tuple" "tuple" = some true by decide +kernel)) (fun z => by cases z) (fun _ => rfl)) (fun z => by cases z)
  | dict _ => exact kitAny_cons (b := false) (r := false) (kit_ty (show kitB "dict" "list" = some false by decide +kernel)) (fun _ => kitAny_cons (b := false) (r := false) (kit_ty (show kitB "dict" "tuple" = some false by decide +kernel)) (fun _ => kitAny_nil) (fun z => by cases z)) (fun z => by cases z)
theorem kit_int (d : PyData) : PySem.W.kitOne K (.type (tyN d)) (.type "int") = some (isIntB d) := by
  cases d with
  | none => exact kit_ty (show kitB "NoneType" "int" = some false by decide +kernel)
  | bool _ => exact kit_ty (show kitB "bool" "int" = some true by decide +kernel)
  | int _ => exact kit_ty (show kitB "int" "int" = some true by decide +kernel)
  | str _ => exact kit_ty (show kitB "str" "int" = some false by decide +kernel)
  | list _ => exact kit_ty (show kitB "list" "int" = some false by decide +kernel)
  | tuple _ => exact kit_ty (show kitB "tuple" "int" = some false by decide +kernel)
  | dict _ => exact kit_ty (show kitB "dict" "int" = some false by decide +kernel)
def isTupD : PyData → Bool
  | .tuple _ => true
  | _ => false
theorem kit_tuple (d : PyData) : PySem.W.kitOne K (.type (tyN d)) (.type "tuple") = some (isTupD d) := by
  cases d with
  | none => exact kit_ty (show kitB "NoneType" "tuple" = some false by decide +kernel)
  | bool _ => exact kit_ty (show kitB "bool" "tuple" = some false by decide +kernel)
  | int _ => exact kit_ty (show kitB "int" "tuple" = some false by decide +kernel)
  | str _ => exact kit_ty (show kitB "str" "tuple" = some false by decide +kernel)
  | list _ => exact kit_ty (show kitB "list" "tuple" = some false by decide +kernel)
  | tuple _ => exact kit_ty (show kitB "tuple" "tuple" = some true by decide +kernel)
  | dict _ => exact kit_ty (show kitB "dict" "tuple" = some false by decide +kernel)
def isBoolD : PyData → Bool
  | .bool _ => true
  | _ => false
theorem kit_bool (d : PyData) : PySem.W.kitOne K (.type (tyN d)) (.type "bool") = some (isBoolD d) := by
  cases d with
  | none => exact kit_ty (show kitB "NoneType" "bool" = some false by decide +kernel)
  | bool _ => exact kit_ty (show kitB "bool" "bool" = some true by decide +kernel)
  | int _ => exact kit_ty (show kitB "int" "bool" = some false by decide +kernel)
  | str _ => exact kit_ty (show kitB "str" "bool" = some false by decide +kernel)
  | list _ => exact kit_ty (show kitB "list" "bool" = some false by decide +kernel)
  | tuple _ => exact kit_ty (show kitB "tuple" "bool" = some false by decide +kernel)
  | dict _ => exact kit_ty (show kitB "dict" "bool" = some false by decide +kernel)
variable {Q : VK} {σ : L2.St} {te : TE}
def SeqQ (K : PySem.W.Frag) (v : V) (H : Hp) (Q : VK) : Prop := ∃ t b, TyX K H v (.type t) ∧ PySem.W.kitAny K (.type t) [.type "list", .type "tuple"] = some b ∧ Q (.bl b) H
theorem g_seqP (h : te σ H fun x H1 => SeqQ K x H1 Q) : tSeqP K te σ H Q := h
theorem g_seqQ {v : V} {d : PyData} (h : Dq q K H v d) (k : Q (.bl (isSeqD d)) H) : SeqQ K v H Q :=
  ⟨_, _, h.ty, kit_seq d, k⟩
theorem g_isiI {v : V} {d : PyData} (h : Dq q K H v d) (k : Q (.bl (isIntB d)) H) : rIsi K [v, .ty "int"] H Q :=
  ⟨v, .ty "int", _, _, _, rfl, .ty "int", h.ty, kit_int d, k⟩
theorem g_isiT {v : V} {d : PyData} (h : Dq q K H v d) (k : Q (.bl (isTupD d)) H) : rIsi K [v, .ty "tuple"] H Q :=
  ⟨v, .ty "tuple", _, _, _, rfl, .ty "tuple", h.ty, kit_tuple d, k⟩
theorem g_isiB {v : V} {d : PyData} (h : Dq q K H v d) (k : Q (.bl (isBoolD d)) H) : rIsi K [v, .ty "bool"] H Q :=
  ⟨v, .ty "bool", _, _, _, rfl, .ty "bool", h.ty, kit_bool d, k⟩
/-- a list or a tuple -/
def Sq (K : PySem.W.Frag) (H : Hp) (a : Addr) (xs : List V) : Prop := SqL K H a xs ∨ SqT K H a xs
theorem Sq.go {a : Addr} {xs : List V} (s : SameX q H H') (n : a ≠ q) (h : Sq K H a xs) : Sq K H' a xs := by
  rcases h with h | h
  · exact .inl (s.seq n h)
  · exact .inr (s.tup n h)
theorem Dq.seq {d : PyData} {v : V} (h : Dq q K H v d) (e : isSeqD d = true) : ∃ a xs ds, v = .ref a ∧ a ≠ q ∧ Sq K H a xs ∧ DqAll q K H xs ds ∧ (d = .list ds ∨ d = .tuple ds) := by
  cases h with
  | lst n h ha => exact ⟨_, _, _, rfl, n, .inl h, ha, .inl rfl⟩
  | tup n h ha => exact ⟨_, _, _, rfl, n, .inr h, ha, .inr rfl⟩
  | _ => cases e
theorem g_ix {a : Addr} {xs : List V} {i : Int} {v : V} (h : Sq K H a xs) (e : atI xs i = some v) (k : Q v H) : rIx K (.ref a) (.int i) H Q := by
  rcases h with h | h
  · exact .inl ⟨a, xs, i, v, rfl, rfl, h, e, k⟩
  · exact .inr (.inl ⟨a, xs, i, v, rfl, rfl, h, e, k⟩)
theorem g_len {a : Addr} {xs : List V} (h : Sq K H a xs) (k : Q (.int (xs.length : Int)) H) : rLenU K [.ref a] H Q := by
  rcases h with h | h
  · exact ⟨.ref a, xs.length, rfl, .inl ⟨xs, h, rfl⟩, k⟩
  · exact ⟨.ref a, xs.length, rfl, .inr ⟨xs, h, rfl⟩, k⟩
def valD : PyData → Int
  | .int i => i
  | _ => 0
/-- a bound, or none -/
def bdV : Option Int → V
  | none => .non
  | some i => .int i
def loB (l : Option Int) (i : Int) : Bool := match l with | none => true | some m => decide (m ≤ i)
def hiB (l : Option Int) (i : Int) : Bool := match l with | none => true | some m => decide (i ≤ m)
def wthD (d : PyData) (l m : Option Int) : Bool := isIntD d && (loB l (valD d) && hiB m (valD d))
def isPlD : PyData → Bool
  | .list [a, b] | .tuple [a, b] => isFrD a && isFrD b
  | _ => false
theorem posD_eq (d : PyData) : posD d = wthD d (some 1) none := by
  cases d with
  | int i =>
    show decide (1 ≤ i) = (true && (decide (1 ≤ i) && true))
    rw [Bool.true_and, Bool.and_true]
  | _ => rfl
theorem Dq.int_of {d : PyData} {v : V} (h : Dq q K H v d) (e : isIntD d = true) : v = .int (valD d) ∧ d = .int (valD d) := by
  cases h with
  | int i => exact ⟨rfl, rfl⟩
  | _ => cases e
theorem frD_two {d : PyData} {ds : List PyData} (e : d = .list ds ∨ d = .tuple ds) (n : ds.length ≠ 2) : isFrD d = false ∧ isPlD d = false := by
  rcases e with rfl | rfl
  all_goals
    match ds, n with
    | [], _ => exact ⟨rfl, rfl⟩
    | [_], _ => exact ⟨rfl, rfl⟩
    | [_, _], n => exact absurd rfl n
    | _ :: _ :: _ :: _, _ => exact ⟨rfl, rfl⟩
theorem frD_of {d x y : PyData} (e : d = .list [x, y] ∨ d = .tuple [x, y]) : isFrD d = (isIntD x && posD y) ∧ isPlD d = (isFrD x && isFrD y) := by
  rcases e with rfl | rfl <;> exact ⟨rfl, rfl⟩
theorem frD_no {d : PyData} (e : isIntD d = false) (n : isSeqD d = false) : isFrD d = false := by
  cases d with
  | int i => cases e
  | list ds => cases n
  | tuple ds => cases n
  | _ => rfl
theorem plD_no {d : PyData} (n : isSeqD d = false) : isPlD d = false := by
  cases d with
  | list ds => cases n
  | tuple ds => cases n
  | _ => rfl
theorem frD_int {d : PyData} (e : isIntD d = true) : isFrD d = true := by
  cases d with
  | int i => rfl
  | _ => cases e
theorem two_of {vs : List V} {ds : List PyData} (h : DqAll q K H vs ds) (e : vs.length = 2) : ∃ x y a b, vs = [x, y] ∧ ds = [a, b] ∧ Dq q K H x a ∧ Dq q K H y b := by
  cases h with
  | nil => cases e
  | cons h1 t => cases t with
    | nil => cases e
    | cons h2 t => cases t with
      | nil => exact ⟨_, _, _, _, rfl, rfl, h1, h2⟩
      | cons h3 t =>
        rw [List.length_cons, List.length_cons, List.length_cons] at e
        omega
theorem relR {vs : List V} {us : List Value} {ks : List Str} (r : Vals vs us) (_ : us.length = ks.length) : Vals vs.reverse us.reverse := r.reverse
theorem lenR {ps ks : List Str} (h : ps.length = ks.length) (vs : List V) (e : vs.reverse.length = ps.length) : vs.length = ks.length := by
  rw [List.length_reverse] at e
  omega
end
end Mf
namespace Mf
open PySem PySem.Spec PyProof.Rows L2
section
variable {K : PySem.W.Frag} {σ : L2.St} {H H1 : Hp} {Q : VK} {v x y : V} {ta tb te tl : TE} {tt : TT} {tr : TA} {g : TG} {vs : List Nat}
/-! ### slices, comprehensions -/
theorem g_sl {r : V → Option Int → Option Int → Hp → VK → Prop} {to th : TO} (q : te σ H fun x H1 => to σ H1 fun l H2 => th σ H2 fun u H3 => r x l u H3 Q) : tSl r te to th σ H Q := q
theorem g_noPart {R : Option Int → Hp → Prop} (q : R none H) : tNoPart σ H R := q
theorem g_part {R : Option Int → Hp → Prop} (q : te σ H fun x H1 => ∃ i, x = .int i ∧ R (some i) H1) : tPart te σ H R := q
theorem g_ii {i : Int} {R : Int → Prop} (q : R i) : ∃ j, V.int i = .int j ∧ R j := ⟨i, rfl, q⟩
theorem g_slL {a : Addr} {xs : List V} {lo hi : Option Int} (h : SqL K H a xs) (q : ∀ p H2, H p = none → Same H H2 → H2 p = some (.lst (cutV xs lo hi)) → Q (.ref p) H2) : rSlL K (.ref a) lo hi H Q :=
  ⟨a, xs, rfl, h, fun p hp => q p _ hp (same_new hp) upd_same⟩
theorem cut_ints (ns : List Int) (lo hi : Option Int) : ∃ ms : List Int, cutV (ns.map V.int) lo hi = ms.map V.int ∧ ms.length ≤ ns.length := by
  unfold cutV
  refine ⟨(ns.drop (HT.sIx (ns.map V.int).length 0 lo)).take (HT.sIx (ns.map V.int).length (ns.map V.int).length hi - HT.sIx (ns.map V.int).length 0 lo), ?_, ?_⟩
  · rw [List.map_take, List.map_drop]
  · rw [List.length_take, List.length_drop]
    omega
/-- what a comprehension asks once its walked thing is there -/
def LcGo (J : It) (g : TG) (tt : TT) (te : TE) (vs : List Nat) (σ : L2.St) (H1 : Hp) (Q : VK) : Prop := ∀ D, H1 D = none → ∃ W : Nat → Nat → Hp → Prop, (∃ m, W 0 m (upd H1 D (.lst []))) ∧
  ∀ i m H, W i m H → (J.stop i H ∧ Q (.ref D) H) ∨ (J.go i H ∧ ∃ Nx : Hp → Prop, (∀ H', Nx H' → ∃ m', m' < m ∧ W (i + 1) m' H') ∧
    ∀ x H', J.yld i H x H' → g x (wipe σ vs) H' fun σ2 H2 => wipe σ2 vs = wipe σ vs ∧ tt σ2 H2 fun b H3 =>
      if b = true then te σ2 H3 fun y H4 => ∃ acc, H4 D = some (.lst acc) ∧ acc.length < sizeLine ∧ Nx (upd H4 D (.lst (acc ++ [y]))) else Nx H3)
theorem g_lcL (q : tl σ H fun x H1 => ∃ a, x = .ref a ∧ (∃ xs, SqL K H1 a xs) ∧ LcGo (Itl K a) g tt te vs σ H1 Q) : tLc (iList K tl) g tt te vs σ H Q := q
theorem g_lcR (q : tr σ H fun us H1 => ∃ j : Int, us = [.int j] ∧ -(2 ^ 62) ≤ j ∧ j < 2 ^ 62 ∧ LcGo (Itr 0 j.toNat) g tt te vs σ H1 Q) : tLc (iRng1 tr) g tt te vs σ H Q := q
theorem lcgo_list {a : Addr} {xs : List V} {j : Nat} (Pv : Addr → Nat → Hp → Prop) (hw : ∀ x, wipe ((wipe σ vs).set j (some x)) vs = wipe σ vs)
    (h0 : ∀ D, H1 D = none → Pv D 0 (upd H1 D (.lst []))) (hl : ∀ D i H, i ≤ xs.length → Pv D i H → SqL K H a xs)
    (hs : ∀ D i x H, H1 D = none → xs[i]? = some x → Pv D i H → te ((wipe σ vs).set j (some x)) H fun y H4 => ∃ acc, H4 D = some (.lst acc) ∧ acc.length < sizeLine ∧ Pv D (i + 1) (upd H4 D (.lst (acc ++ [y]))))
    (hd : ∀ D H, H1 D = none → Pv D xs.length H → Q (.ref D) H) : LcGo (Itl K a) (gName j) tYes te vs σ H1 Q :=
  fun D hD => lc_list (xs := xs) (Pv D) (h0 D hD) (hl D) (fun i x H e p => ⟨hw x, hs D i x H hD e p⟩) (fun H p => hd D H hD p)
theorem lcgo_range {n j : Nat} (Pv : Addr → Nat → Hp → Prop) (hw : ∀ x, wipe ((wipe σ vs).set j (some x)) vs = wipe σ vs)
    (h0 : ∀ D, H1 D = none → Pv D 0 (upd H1 D (.lst [])))
    (hs : ∀ D i H, H1 D = none → i < n → Pv D i H → te ((wipe σ vs).set j (some (.int (0 + (i : Int))))) H fun y H4 => ∃ acc, H4 D = some (.lst acc) ∧ acc.length < sizeLine ∧ Pv D (i + 1) (upd H4 D (.lst (acc ++ [y]))))
    (hd : ∀ D H, H1 D = none → Pv D n H → Q (.ref D) H) : LcGo (Itr 0 n) (gName j) tYes te vs σ H1 Q :=
  fun D hD => lc_range (lo := 0) (n := n) (Pv D) (h0 D hD) (fun i H e p => ⟨hw _, hs D i H hD e p⟩) (fun H p => hd D H hD p)

/-! ### numbers -/
theorem g_mod {i j : Int} (h : 0 < j) (q : Q (.int (i % j)) H) : rI (fun _ j => 0 < j) (fun i j => .int (i % j)) (.int i) (.int j) H Q := ⟨i, j, rfl, rfl, h, q⟩
theorem g_div {i j : Int} (h : 0 < j) (h2 : j.natAbs.log2 < 9000) (q : Q (.int (i / j)) H) : rI CDivW (fun i j => .int (i / j)) (.int i) (.int j) H Q := ⟨i, j, rfl, rfl, ⟨h, h2⟩, q⟩
theorem g_pow {i j : Int} (h1 : 0 ≤ j) (h2 : j ≤ 1000000) (h : i.natAbs < 2 ^ 64) (q : Q (.int (i ^ j.toNat)) H) : rI CPow (fun i j => .int (i ^ j.toNat)) (.int i) (.int j) H Q := ⟨i, j, rfl, rfl, ⟨h1, h2, h⟩, q⟩
theorem g_mulL {i j : Int} (h1 : -(2 ^ 64) < i) (h2 : i < 2 ^ 64) (q : Q (.int (i * j)) H) : rMulU (.int i) (.int j) H Q := .inl ⟨i, j, rfl, rfl, .inl (.inl ⟨h1, h2⟩), q⟩
theorem g_mulR {i j : Int} (h1 : -(2 ^ 64) < j) (h2 : j < 2 ^ 64) (q : Q (.int (i * j)) H) : rMulU (.int i) (.int j) H Q := .inl ⟨i, j, rfl, rfl, .inl (.inr ⟨h1, h2⟩), q⟩
theorem g_mulW {i j : Int} (h : i.natAbs.log2 + j.natAbs.log2 < 1000000) (q : Q (.int (i * j)) H) : rMulU (.int i) (.int j) H Q := .inl ⟨i, j, rfl, rfl, .inr h, q⟩
theorem g_ltI {i j : Int} (q : Q (.bl (decide (i < j))) H) : rI0 (fun i j => .bl (decide (i < j))) (.int i) (.int j) H Q := ⟨i, j, rfl, rfl, q⟩
theorem g_neNil {c p : Addr} {ns : List Int} (h1 : SqL K H c (ns.map V.int)) (h2 : SqL K H p []) (q : Q (.bl (!ns.isEmpty)) H) : rNeU K (.ref c) (.ref p) H Q := by
  have dall : ∀ l : List Int, DpAll K H (l.map V.int) (l.map PyData.int) := fun l => by
    induction l with
    | nil => exact .nil
    | cons z r ih => exact .cons (.int z) ih
  have lay : ∀ l : List Int, PyData.canLayAll0 (l.map PyData.int) = true := fun l => by
    induction l with
    | nil => rfl
    | cons z r ih =>
      show (true && PyData.canLayAll0 (r.map PyData.int)) = true
      rw [ih]
      rfl
  have dep : ∀ l : List Int, PyData.depthAll (l.map PyData.int) ≤ 1 := fun l => by
    induction l with
    | nil => decide
    | cons z r ih =>
      rw [List.map_cons]
      simp only [PyData.depthAll, PyData.depth]
      omega
  refine .inr ⟨.list (ns.map PyData.int), .list [], .lst h1 (dall ns), .lst h2 .nil, ?_, by decide, ?_⟩
  · unfold SeqAt.shaped
    rw [Bool.and_eq_true]
    refine ⟨lay ns, decide_eq_true ?_⟩
    have := dep ns
    simp only [PyData.depth]
    omega
  · cases ns with
    | nil => exact q
    | cons z r => exact q
theorem g_sub {to ti : TE} {t : TSet} {R : L2.St → Hp → Prop} (q : to σ H fun o H1 => ti σ H1 fun i H2 => t o i v H2 fun H3 => R σ H3) : gSub to ti t v σ H R := q
theorem g_setL {p : Addr} {xs : List V} {k : Int} {j : Nat} {R : Hp → Prop} (h : H p = some (.lst xs)) (e : ixN xs.length k = some j) (q : R (upd H p (.lst (xs.set j v)))) : rSetL (.ref p) (.int k) v H R := ⟨p, xs, k, j, rfl, rfl, h, e, q⟩
theorem stir_bd {s t a b c : Int} (hs0 : 0 ≤ s) (hs : s < 2147483648) (ht0 : 0 ≤ t) (ht : t ≤ 1000000) (ha0 : 0 ≤ a) (ha : a ≤ 100000) (hb0 : 0 ≤ b) (hb : b ≤ 1000000) (hc0 : 0 ≤ c) (hc : c ≤ 1000000) :
    (s * (2 * t + a) + b * t * t + c).natAbs < 2 ^ 64 := by
  have h1 : s * (2 * t + a) ≤ 2147483648 * 2100000 := Int.mul_le_mul (by omega) (by omega) (by omega) (by omega)
  have h2 : 0 ≤ s * (2 * t + a) := Int.mul_nonneg hs0 (by omega)
  have h3 : b * t ≤ 1000000 * 1000000 := Int.mul_le_mul hb ht ht0 (by omega)
  have h4 : 0 ≤ b * t := Int.mul_nonneg hb0 ht0
  have h5 : b * t * t ≤ 1000000000000 * 1000000 := Int.mul_le_mul (by omega) ht ht0 (by omega)
  have h6 : 0 ≤ b * t * t := Int.mul_nonneg h4 ht0
  generalize s * (2 * t + a) = p at *
  generalize b * t * t = r at *
  omega
end

/-! ### what draws -/
/-- q holds the cells, how many were begun, what is left -/
def Qy (K : PySem.W.Frag) (q : Addr) (t : Int) (H : Hp) : Prop := ∃ (c : Addr) (ns : List Int) (r : Int), H q = some (.lst [.ref c, .int t, .int r]) ∧ H c = some (.lst (ns.map V.int)) ∧ c ≠ q ∧ ns.length ≤ 63 ∧ 0 ≤ r ∧ 0 ≤ t
theorem Qy.same {K : PySem.W.Frag} {q : Addr} {t : Int} {H H' : Hp} (s : Same H H') (h : Qy K q t H) : Qy K q t H' := by
  obtain ⟨c, ns, r, h1, h2, h3, h4, h5, h6⟩ := h
  exact ⟨c, ns, r, s _ _ h1, s _ _ h2, h3, h4, h5, h6⟩
theorem Qy.nn {K : PySem.W.Frag} {q : Addr} {t : Int} {H : Hp} (h : Qy K q t H) : 0 ≤ t := by
  obtain ⟨c, ns, r, h1, h2, h3, h4, h5, h6⟩ := h
  exact h6
theorem Qy.at {K : PySem.W.Frag} {q : Addr} {t : Int} {H : Hp} (h : Qy K q t H) : ∃ o, H q = some o := by
  obtain ⟨c, ns, r, h1, _⟩ := h
  exact ⟨_, h1⟩
theorem Qy.ne {K : PySem.W.Frag} {q p : Addr} {t : Int} {H : Hp} (h : Qy K q t H) (e : H p = none) : p ≠ q := by
  obtain ⟨o, h1⟩ := h.at
  exact (ne_of_none h1 e).symm
theorem upd_x {q c : Addr} {H : Hp} {t r t' r' : V} (h : H q = some (.lst [.ref c, t, r])) : SameX q H (upd H q (.lst [.ref c, t', r'])) := by
  refine ⟨fun b z n e => ?_, fun c2 t2 r2 e => ⟨t', r', ?_⟩⟩
  · rw [upd_ne n]
    exact e
  · rw [h] at e
    cases e
    exact upd_same
/-- the cells' address is not d -/
def Qn (q d : Addr) (H : Hp) : Prop := ∀ c t r, H q = some (.lst [.ref c, t, r]) → c ≠ d
theorem Qn.go {K : PySem.W.Frag} {q d : Addr} {t : Int} {H H' : Hp} (h : Qn q d H) (hq : Qy K q t H) (s : SameX q H H') : Qn q d H' := by
  obtain ⟨c, ns, r, h1, _⟩ := hq
  obtain ⟨t2, r2, e2⟩ := s.cell c _ _ h1
  intro c' t' r' e'
  rw [e2] at e'
  cases e'
  exact h c _ _ h1
theorem Qn.new {K : PySem.W.Frag} {q d : Addr} {t : Int} {H : Hp} (hq : Qy K q t H) (e : H d = none) : Qn q d H := by
  obtain ⟨c, ns, r, h1, h2, _⟩ := hq
  intro c' t' r' e'
  rw [h1] at e'
  cases e'
  exact ne_of_none h2 e
theorem Qy.upd {K : PySem.W.Frag} {q d : Addr} {t : Int} {H : Hp} {o : HO} (hq : Qy K q t H) (hn : Qn q d H) (n : d ≠ q) : Qy K q t (upd H d o) := by
  obtain ⟨c, ns, r, h1, h2, h3, h4, h5, h6⟩ := hq
  refine ⟨c, ns, r, ?_, ?_, h3, h4, h5, h6⟩
  · rw [upd_ne n.symm]
    exact h1
  · rw [upd_ne (hn c _ _ h1)]
    exact h2
theorem Qn.upd {K : PySem.W.Frag} {q d : Addr} {t : Int} {H : Hp} {o : HO} (hq : Qy K q t H) (hn : Qn q d H) (n : d ≠ q) : Qn q d (L2.upd H d o) := by
  intro c' t' r' e'
  rw [upd_ne n.symm] at e'
  exact hn c' t' r' e'
def sp_quay (K : PySem.W.Frag) : Sp := fun vs H Q _ => ∃ (a : Addr) (ns : List Int), vs = [.ref a] ∧ SqL K H a (ns.map V.int) ∧ ns.length ≤ 63 ∧ ∀ q H', Same H H' → H q = none → Qy K q 0 H' → Q (.ref q) H'
def sp_moor (K : PySem.W.Frag) : Sp := fun vs H Q _ => ∃ (q : Addr) (t n : Int), vs = [.ref q, .int n] ∧ Qy K q t H ∧ t ≤ 1000000 ∧ 0 < n ∧ n.natAbs.log2 < 9000 ∧
  ∀ t' H' i, SameX q H H' → Qy K q t' H' → t ≤ t' → t' ≤ t + 1 → 0 ≤ i → i < n → Q (.int i) H'
def sp_pick (K : PySem.W.Frag) : Sp := fun vs H Q _ => ∃ (q a : Addr) (t : Int) (xs : List V), vs = [.ref q, .ref a] ∧ Qy K q t H ∧ t ≤ 1000000 ∧ a ≠ q ∧ Sq K H a xs ∧ xs ≠ [] ∧ xs.length ≤ 1000 ∧
  ∀ t' H' x, SameX q H H' → Qy K q t' H' → t ≤ t' → t' ≤ t + 1 → x ∈ xs → Q x H'
end Mf
namespace Mf
open PySem PySem.Spec PyProof.Rows L2
/-! ### what a menu's items come to -/
def EvD (q : Addr) (K : PySem.W.Frag) (te : TE) (σ : L2.St) (H : Hp) (d : PyData) : Prop := ∀ H1, Same H H1 → ∀ Q : VK, (∀ v H2, Same H1 H2 → Dq q K H2 v d → Q v H2) → te σ H1 Q
def EvDs (q : Addr) (K : PySem.W.Frag) (ta : TA) (σ : L2.St) (H : Hp) (ds : List PyData) : Prop := ∀ H1, Same H H1 → ∀ Q : List V → Hp → Prop, (∀ vs H2, Same H1 H2 → DqAll q K H2 vs ds → Q vs H2) → ta σ H1 Q
section
variable {q : Addr} {K : PySem.W.Frag} {σ : L2.St} {H : Hp} {te tb : TE} {ta : TA} {d : PyData} {ds : List PyData}
theorem ed_var {i : Nat} {v : V} (e : σ[i]? = some (some v)) (h : Dq q K H v d) : EvD q K (tVar i) σ H d := fun H1 s Q k => ⟨v, e, k v H1 (Same.refl _) (h.go (Same.x s))⟩
theorem ed_int {i : Int} : EvD q K (tC (.int i)) σ H (.int i) := fun H1 _ Q k => k _ H1 (Same.refl _) (.int i)
theorem ed_bl {b : Bool} : EvD q K (tC (.bl b)) σ H (.bool b) := fun H1 _ Q k => k _ H1 (Same.refl _) (.bl b)
theorem ed_non : EvD q K (tC .non) σ H .none := fun H1 _ Q k => k _ H1 (Same.refl _) .non
theorem ed_str {x : Str} (h : x.length ≤ 1000) : EvD q K (tC (.str x)) σ H (.str x) := fun H1 _ Q k => k _ H1 (Same.refl _) (.str x h)
theorem ed_neg {i : Int} (h : EvD q K te σ H (.int i)) : EvD q K (tUn (rU fun i => .int (-i)) te) σ H (.int (-i)) := fun H1 s Q k => h H1 s _ fun v H2 s2 hd => by
  cases hd
  exact ⟨i, rfl, k _ H2 s2 (.int _)⟩
theorem ed_pow {i j : Int} (h1 : EvD q K te σ H (.int i)) (h2 : EvD q K tb σ H (.int j)) (c : CPow i j) : EvD q K (tOp (rI CPow fun i j => .int (i ^ j.toNat)) te tb) σ H (.int (i ^ j.toNat)) := fun H1 s Q k => h1 H1 s _ fun v H2 s2 hd => by
  cases hd
  exact h2 H2 (s.trans s2) _ fun v H3 s3 hd => by
    cases hd
    exact ⟨i, j, rfl, rfl, c, k _ H3 (s2.trans s3) (.int _)⟩
theorem ed_mul {i j : Int} (h1 : EvD q K te σ H (.int i)) (h2 : EvD q K tb σ H (.int j)) (c : CMulU i j) : EvD q K (tOp rMulU te tb) σ H (.int (i * j)) := fun H1 s Q k => h1 H1 s _ fun v H2 s2 hd => by
  cases hd
  exact h2 H2 (s.trans s2) _ fun v H3 s3 hd => by
    cases hd
    exact .inl ⟨i, j, rfl, rfl, c, k _ H3 (s2.trans s3) (.int _)⟩
theorem eds_nil : EvDs q K tNil σ H [] := fun H1 _ Q k => k [] H1 (Same.refl _) .nil
theorem eds_cons (h : EvD q K te σ H d) (t : EvDs q K ta σ H ds) : EvDs q K (tCons te ta) σ H (d :: ds) := fun H1 s Q k => h H1 s _ fun v H2 s2 hd => t H2 (s.trans s2) _ fun vs H3 s3 hds =>
  k (v :: vs) H3 (s2.trans s3) (.cons (hd.go (Same.x s3)) hds)
theorem ed_tup {o : HO} (hq : H q = some o) (h : EvDs q K ta σ H ds) (hl : ds.length ≤ 1000) : EvD q K (tTup ta) σ H (.tuple ds) := fun H1 s Q k => h H1 s _ fun vs H2 s2 hds =>
  ⟨by rw [hds.len]; exact Nat.le_of_lt (small1000 hl), fun p hp => k _ _ (s2.trans (same_new hp)) (.tup (ne_of_none ((s.trans s2) _ _ hq) hp).symm (tupU upd_same) (hds.go (Same.x (same_new hp))))⟩
theorem ed_lst {o : HO} (hq : H q = some o) (h : EvDs q K ta σ H ds) (hl : ds.length ≤ 1000) : EvD q K (tLst ta) σ H (.list ds) := fun H1 s Q k => h H1 s _ fun vs H2 s2 hds =>
  ⟨by rw [hds.len]; exact Nat.le_of_lt (small1000 hl), fun p hp => k _ _ (s2.trans (same_new hp)) (.lst (ne_of_none ((s.trans s2) _ _ hq) hp).symm (seqU upd_same) (hds.go (Same.x (same_new hp))))⟩
theorem ed_dict0 {o : HO} (hq : H q = some o) : EvD q K tDNewK σ H (.dict []) := fun H1 s Q k p hp => k _ _ (same_new hp) (.dct (ne_of_none (s _ _ hq) hp).symm upd_same)
theorem ed_dict2 {o : HO} (hq : H q = some o) {a b c d : Int} : EvD q K (tDisp [(tC (.int a), tC (.int b)), (tC (.int c), tC (.int d))]) σ H (.dict []) := fun H1 s Q k p hp =>
  ⟨upd_same, [(.inl a, .int b), (.inl c, .int d)], rfl, by show 2 ≤ 15; decide, by
    rw [upd_upd]
    exact k _ _ (same_new hp) (.dct (ne_of_none (s _ _ hq) hp).symm upd_same)⟩
/-- .. and used -/
theorem EvDs.run {Q : List V → Hp → Prop} (h : EvDs q K ta σ H ds) (k : ∀ vs H2, Same H H2 → DqAll q K H2 vs ds → Q vs H2) : ta σ H Q := h H (Same.refl _) Q k
theorem EvD.run {Q : VK} (h : EvD q K te σ H d) (k : ∀ v H2, Same H H2 → Dq q K H2 v d → Q v H2) : te σ H Q := h H (Same.refl _) Q k
theorem DqAll.mem : ∀ {vs : List V} {ds : List PyData} {x : V}, DqAll q K H vs ds → x ∈ vs → ∃ d ∈ ds, Dq q K H x d
  | _, _, _, .nil, h => absurd h List.not_mem_nil
  | _, _, _, .cons h t, hx => by
    rcases List.mem_cons.mp hx with rfl | hx
    · exact ⟨_, List.mem_cons_self, h⟩
    · obtain ⟨d, m, e⟩ := DqAll.mem t hx
      exact ⟨d, List.mem_cons_of_mem _ m, e⟩
theorem DqAll.app : ∀ {vs ws : List V} {ds es : List PyData}, DqAll q K H vs ds → DqAll q K H ws es → DqAll q K H (vs ++ ws) (ds ++ es)
  | _, _, _, _, .nil, h => h
  | _, _, _, _, .cons h t, h2 => .cons h (DqAll.app t h2)
/-- data that can be compared and shown -/
def okD (d : PyData) : Bool := noDct d && (d.canLay0 && decide (d.depth ≤ 60))
def okV (d : PyData) : Bool := match d with | .dict _ => true | d => okD d
def okO (d : PyData) : Bool := match d with | .list [a, b] | .tuple [a, b] => okD a && okD b | _ => true
end
theorem noDct_parts : ∀ {ds : List PyData}, noDct.all ds = true → ∀ d ∈ ds, noDct d = true
  | [], _, d, hd => absurd hd List.not_mem_nil
  | x :: r, h, d, hd => by
    unfold noDct.all at h
    rw [Bool.and_eq_true] at h
    rcases List.mem_cons.mp hd with rfl | hd
    · exact h.1
    · exact noDct_parts h.2 d hd
theorem lay_parts : ∀ {ds : List PyData}, PyData.canLayAll0 ds = true → PyData.depthAll ds ≤ 60 → ∀ d ∈ ds, d.canLay0 = true ∧ d.depth ≤ 60
  | [], _, _, d, hd => absurd hd List.not_mem_nil
  | x :: r, h, e, d, hd => by
    have h' : (x.canLay0 && PyData.canLayAll0 r) = true := h
    rw [Bool.and_eq_true] at h'
    simp only [PyData.depthAll] at e
    rcases List.mem_cons.mp hd with rfl | hd
    · exact ⟨h'.1, by omega⟩
    · exact lay_parts h'.2 (by omega) d hd
theorem okD_parts {d : PyData} {ds : List PyData} (e : d = .list ds ∨ d = .tuple ds) (h : okD d = true) : ∀ x ∈ ds, okD x = true := by
  unfold okD at h
  rw [Bool.and_eq_true, Bool.and_eq_true] at h
  obtain ⟨h1, h2, h3⟩ := h
  have h3 := of_decide_eq_true h3
  intro x hx
  have key : noDct.all ds = true ∧ PyData.canLayAll0 ds = true ∧ PyData.depthAll ds ≤ 60 := by
    rcases e with rfl | rfl
    all_goals
      unfold noDct at h1
      simp only [PyData.depth] at h3
      exact ⟨h1, h2, by omega⟩
  obtain ⟨k1, k2, k3⟩ := key
  have := lay_parts k2 k3 x hx
  unfold okD
  rw [Bool.and_eq_true, Bool.and_eq_true]
  exact ⟨noDct_parts k1 x hx, this.1, decide_eq_true this.2⟩
theorem okO_of {d : PyData} (h : okV d = true) : okO d = true := by
  unfold okO
  split
  · rename_i a b
    rw [Bool.and_eq_true]
    exact ⟨okD_parts (.inl rfl) h a (List.mem_cons_self), okD_parts (.inl rfl) h b (List.mem_cons_of_mem _ List.mem_cons_self)⟩
  · rename_i a b
    rw [Bool.and_eq_true]
    exact ⟨okD_parts (.inr rfl) h a (List.mem_cons_self), okD_parts (.inr rfl) h b (List.mem_cons_of_mem _ List.mem_cons_self)⟩
  · rfl
section
variable {q : Addr} {K : PySem.W.Frag} {H : Hp} {Q : VK} {σ : L2.St} {te : TE}
theorem okD_all : ∀ {ds : List PyData}, (∀ d ∈ ds, okD d = true) → noDct.all ds = true ∧ PyData.canLayAll0 ds = true ∧ PyData.depthAll ds ≤ 60
  | [], _ => ⟨rfl, rfl, by decide⟩
  | d :: ds, h => by
    have h1 := h d List.mem_cons_self
    obtain ⟨i1, i2, i3⟩ := okD_all fun e he => h e (List.mem_cons_of_mem _ he)
    unfold okD at h1
    rw [Bool.and_eq_true, Bool.and_eq_true] at h1
    obtain ⟨k1, k2, k3⟩ := h1
    have k3 := of_decide_eq_true k3
    refine ⟨?_, ?_, ?_⟩
    · unfold noDct.all
      rw [k1, i1]
      rfl
    · show (d.canLay0 && PyData.canLayAll0 ds) = true
      rw [k2, i2]
      rfl
    · simp only [PyData.depthAll]
      omega
/-- a list of such == [] -/
theorem g_eqNilD {c p : Addr} {vs : List V} {ds : List PyData} (h1 : SqL K H c vs) (hall : DqAll q K H vs ds) (hok : ∀ d ∈ ds, okD d = true) (h2 : SqL K H p []) (k : Q (.bl vs.isEmpty) H) : rEqU K (.ref c) (.ref p) H Q := by
  obtain ⟨i1, i2, i3⟩ := okD_all hok
  refine .inr ⟨.list ds, .list [], .lst h1 (hall.dp i1), .lst h2 .nil, ?_, by decide, ?_⟩
  · unfold SeqAt.shaped
    rw [Bool.and_eq_true]
    refine ⟨i2, decide_eq_true ?_⟩
    simp only [PyData.depth]
    omega
  · cases hall with
    | nil => exact k
    | cons _ _ => exact k
/-- what is reckoned apart -/
theorem cut_te {v : V} (h1 : ∀ Q : VK, Q v H → te σ H Q) (h2 : Q v H) : te σ H Q := h1 Q h2
theorem cut_teS {v : V} (h1 : ∀ Q : VK, (∀ H', Same H H' → Q v H') → te σ H Q) (h2 : ∀ H', Same H H' → Q v H') : te σ H Q := h1 Q h2
theorem bb_len : ∀ b c : Bool, (PyData.list [.bool b, .bool c]).shown.length ≤ sizeLine := by decide +kernel
theorem b_len : ∀ b : Bool, (PyData.bool b).shown.length ≤ sizeLine := by decide +kernel
theorem g_reprBB {p : Addr} {b c : Bool} (e : H p = some (.lst [.bl b, .bl c])) (k : Q (.str (PyData.list [.bool b, .bool c]).shown) H) : rReprU K [.ref p] H Q :=
  g_repr (.lst (seqU e) (.cons (.bl b) (.cons (.bl c) .nil))) rfl rfl (Nat.le_of_ble_eq_true rfl) (bb_len b c) k
theorem g_reprB {b : Bool} (k : Q (.str (PyData.bool b).shown) H) : rReprU K [.bl b] H Q := g_repr (.bl b) rfl rfl (Nat.le_of_ble_eq_true rfl) (b_len b) k
theorem g_neSs {x : Str} (k : Q (.bl false) H) : rNeU K (.str x) (.str x) H Q := g_neS (by rw [decide_eq_true rfl]; exact k)
theorem g_par {i j : Nat} {ta : TA} {D : Ends} (k : ta σ H fun vs H1 => ∃ u v, vs = [u, v] ∧ D.nx ((σ.set i (some u)).set j (some v)) H1) : tPar i j ta D σ H := k
theorem g_par3 {i j l : Nat} {ta : TA} {D : Ends} (k : ta σ H fun vs H1 => ∃ u v w, vs = [u, v, w] ∧ D.nx (((σ.set i (some u)).set j (some v)).set l (some w)) H1) : tPar3 i j l ta D σ H := k
theorem g_vv {x y : V} {P : V → V → Prop} (k : P x y) : ∃ u v, [x, y] = [u, v] ∧ P u v := ⟨x, y, rfl, k⟩
theorem g_vvv {x y z : V} {P : V → V → V → Prop} (k : P x y z) : ∃ u v w, [x, y, z] = [u, v, w] ∧ P u v w := ⟨x, y, z, rfl, k⟩
/-- a for over range(n) -/
theorem g_for1 {n : Int} {j : Nat} {tb : TS} {D : Ends} (hn : 0 ≤ n ∧ n ≤ 1000) (Pv : Nat → L2.St → Hp → Prop) (h0 : Pv 0 σ H)
    (hs : ∀ i σ H, i < n.toNat → Pv i σ H → tb ⟨Pv (i + 1), D.rt, D.nx, Pv (i + 1)⟩ (σ.set j (some (.int (0 + (i : Int))))) H) (hd : ∀ σ H, Pv n.toNat σ H → D.nx σ H) :
    tFor (iRng1 (tCons (tC (.int n)) tNil)) (gName j) tb D σ H :=
  ⟨n, rfl, by omega, by omega, for_range (lo := 0) (n := n.toNat) Pv h0 (fun i σ H hi p => hs i σ H hi p) hd⟩
theorem mem_bd {x : V} {ls : List (Option Int)} (h : x ∈ ls.map bdV) : ∃ l, x = bdV l := by
  obtain ⟨l, _, e⟩ := List.mem_map.mp h
  exact ⟨l, e.symm⟩
end
section
variable {K : PySem.W.Frag} {σ : L2.St} {H H1 : Hp} {Q : VK} {te : TE} {tt : TT} {vs : List Nat}
theorem g_lcO1 {g : TG} {tl : TE} (q : tl σ H fun x H1 => ∃ a, x = .ref a ∧ (∃ xs, SqL K H1 a xs) ∧ LcGo (Itl K a) g tt te vs σ H1 Q) : tLc (fun σ H R => iList K tl σ H R ∨ iTup K tl σ H R) g tt te vs σ H Q := .inl q
theorem g_lcO2 {g : TG} {tl : TE} (q : tl σ H fun x H1 => ∃ a, x = .ref a ∧ (∃ xs, SqT K H1 a xs) ∧ LcGo (Itt K a) g tt te vs σ H1 Q) : tLc (fun σ H R => iList K tl σ H R ∨ iTup K tl σ H R) g tt te vs σ H Q := .inr q
/-- .. with a test -/
theorem lcgo_listF {a : Addr} {xs : List V} {j : Nat} (Pv : Addr → Nat → Hp → Prop) (hw : ∀ x, wipe ((wipe σ vs).set j (some x)) vs = wipe σ vs)
    (h0 : ∀ D, H1 D = none → Pv D 0 (upd H1 D (.lst []))) (hl : ∀ D i H, i ≤ xs.length → Pv D i H → SqL K H a xs)
    (hs : ∀ D i x H, H1 D = none → xs[i]? = some x → Pv D i H → tt ((wipe σ vs).set j (some x)) H fun b H3 => if b = true then te ((wipe σ vs).set j (some x)) H3 fun y H4 => ∃ acc, H4 D = some (.lst acc) ∧ acc.length < sizeLine ∧ Pv D (i + 1) (upd H4 D (.lst (acc ++ [y]))) else Pv D (i + 1) H3)
    (hd : ∀ D H, H1 D = none → Pv D xs.length H → Q (.ref D) H) : LcGo (Itl K a) (gName j) tt te vs σ H1 Q :=
  fun D hD => lc_list (xs := xs) (Pv D) (h0 D hD) (hl D) (fun i x H e p => ⟨hw x, hs D i x H hD e p⟩) (fun H p => hd D H hD p)
theorem lcgo_tupF {a : Addr} {xs : List V} {j : Nat} (Pv : Addr → Nat → Hp → Prop) (hw : ∀ x, wipe ((wipe σ vs).set j (some x)) vs = wipe σ vs)
    (h0 : ∀ D, H1 D = none → Pv D 0 (upd H1 D (.lst []))) (hl : ∀ D i H, i ≤ xs.length → Pv D i H → SqT K H a xs)
    (hs : ∀ D i x H, H1 D = none → xs[i]? = some x → Pv D i H → tt ((wipe σ vs).set j (some x)) H fun b H3 => if b = true then te ((wipe σ vs).set j (some x)) H3 fun y H4 => ∃ acc, H4 D = some (.lst acc) ∧ acc.length < sizeLine ∧ Pv D (i + 1) (upd H4 D (.lst (acc ++ [y]))) else Pv D (i + 1) H3)
    (hd : ∀ D H, H1 D = none → Pv D xs.length H → Q (.ref D) H) : LcGo (Itt K a) (gName j) tt te vs σ H1 Q :=
  fun D hD => lc_tup (xs := xs) (Pv D) (h0 D hD) (hl D) (fun i x H e p => ⟨hw x, hs D i x H hD e p⟩) (fun H p => hd D H hD p)
end
end Mf
namespace Mf
open PySem PySem.Spec PyProof.Rows L2
/-! ### fractions: the mathematics -/
theorem red_num (u d : Int) (h : 1 ≤ d) : u / ((Nat.gcd u.natAbs d.natAbs : Nat) : Int) = (Rat.divInt u d).num := by
  rw [Rat.num_divInt, Int.sign_eq_one_of_pos (by omega), Int.one_mul]
  show _ = u / ((Nat.gcd d.natAbs u.natAbs : Nat) : Int)
  rw [Nat.gcd_comm]
theorem red_den (u d : Int) (h : 1 ≤ d) : d / ((Nat.gcd u.natAbs d.natAbs : Nat) : Int) = ((Rat.divInt u d).den : Int) := by
  rw [Rat.den_divInt, if_neg (by omega)]
  show _ = ((d.natAbs / Nat.gcd d.natAbs u.natAbs : Nat) : Int)
  rw [Nat.gcd_comm, Int.natCast_ediv, Int.natAbs_of_nonneg (by omega : 0 ≤ d)]
theorem num_le (u d : Int) (h : 1 ≤ d) : (Rat.divInt u d).num.natAbs ≤ u.natAbs := by
  rw [← red_num u d h]
  exact Int.natAbs_ediv_le_natAbs _ _
theorem den_le (u d : Int) (h : 1 ≤ d) : (Rat.divInt u d).den ≤ d.natAbs := by
  rw [Rat.den_divInt, if_neg (by omega)]
  exact Nat.div_le_self _ _
/-- x is below 2 ^ n -/
def Bt (n : Nat) (x : Int) : Prop := x.natAbs < 2 ^ n
theorem Bt.mono {m n : Nat} {x : Int} (h : Bt m x) (l : m ≤ n) : Bt n x := Nat.lt_of_lt_of_le h (Nat.pow_le_pow_right (by decide) l)
theorem Bt.mul {m n : Nat} {x y : Int} (h1 : Bt m x) (h2 : Bt n y) : Bt (m + n) (x * y) := by
  unfold Bt at *
  rw [Int.natAbs_mul, Nat.pow_add]
  exact Nat.mul_lt_mul'' h1 h2
theorem Bt.add {m : Nat} {x y : Int} (h1 : Bt m x) (h2 : Bt m y) : Bt (m + 1) (x + y) := by
  unfold Bt at *
  have := Int.natAbs_add_le x y
  rw [Nat.pow_succ]
  omega
theorem Bt.neg {m : Nat} {x : Int} (h : Bt m x) : Bt m (-x) := by
  unfold Bt at *
  rw [Int.natAbs_neg]
  exact h
theorem Bt.sub {m : Nat} {x y : Int} (h1 : Bt m x) (h2 : Bt m y) : Bt (m + 1) (x - y) := by
  rw [Int.sub_eq_add_neg]
  exact h1.add h2.neg
theorem Bt.log {n : Nat} {x : Int} (h : Bt n x) (l : n ≤ 8999) : x.natAbs.log2 < 9000 :=
  Nat.lt_of_le_of_lt (Nat.le_of_lt_succ (Nat.lt_of_lt_of_le (PySem.Flt.log2_lt_of (Nat.succ_pos _) (Nat.lt_of_lt_of_le h (Nat.pow_le_pow_right (by decide) l))) (Nat.le_refl _))) (by decide)
theorem Bt.show {n : Nat} {x : Int} (h : Bt n x) (l : n ≤ 1900) : x.natAbs.log2 < 1920 :=
  Nat.lt_of_lt_of_le (PySem.Flt.log2_lt_of (by decide : 0 < 1900) (Nat.lt_of_lt_of_le h (Nat.pow_le_pow_right (by decide) l))) (by decide)
theorem Bt.cm {m n : Nat} {x y : Int} (h1 : Bt m x) (h2 : Bt n y) (l : m + n ≤ 900000) : CMulU x y := by
  refine .inr (wide_mul (a := m + 1) (b := n + 1) ?_ ?_ (by omega) (by omega) (by omega))
  · exact Nat.lt_of_lt_of_le h1 (Nat.pow_le_pow_right (by decide) (by omega))
  · exact Nat.lt_of_lt_of_le h2 (Nat.pow_le_pow_right (by decide) (by omega))
/-- .. of a fraction -/
def Rb (n : Nat) (r : Rat) : Prop := Bt n r.num ∧ Bt n (r.den : Int)
theorem Rb.mono {m n : Nat} {r : Rat} (h : Rb m r) (l : m ≤ n) : Rb n r := ⟨h.1.mono l, h.2.mono l⟩
theorem Rb.of {n : Nat} {u d : Int} (hd : 1 ≤ d) (h1 : Bt n u) (h2 : Bt n d) : Rb n (Rat.divInt u d) := by
  refine ⟨Nat.lt_of_le_of_lt (num_le u d hd) h1, ?_⟩
  show ((Rat.divInt u d).den : Int).natAbs < _
  rw [Int.natAbs_natCast]
  exact Nat.lt_of_le_of_lt (den_le u d hd) h2
theorem den1 (r : Rat) : 1 ≤ (r.den : Int) := by
  have := r.den_pos
  omega
theorem add_div (r s : Rat) : Rat.divInt (r.num * s.den + s.num * r.den) (r.den * s.den) = r + s := by
  rw [Rat.add_def', ← Rat.divInt_ofNat, Int.natCast_mul]
theorem sub_div (r s : Rat) : Rat.divInt (r.num * s.den - s.num * r.den) (r.den * s.den) = r - s := by
  rw [Rat.sub_def', ← Rat.divInt_ofNat, Int.natCast_mul]
theorem mul_div (r s : Rat) : Rat.divInt (r.num * s.num) (r.den * s.den) = r * s := by
  rw [Rat.mul_def', ← Rat.divInt_ofNat, Int.natCast_mul]
theorem div_div (r s : Rat) : Rat.divInt (r.num * s.den) (s.num * r.den) = r / s := by
  have e : r / s = Rat.divInt r.num r.den * Rat.divInt s.den s.num := by
    rw [Rat.div_def, Rat.inv_def, Rat.num_divInt_den]
  rw [e, Rat.divInt_mul_divInt, Int.mul_comm (r.den : Int) s.num]
theorem div_neg (r s : Rat) : Rat.divInt (-r.num * s.den) (-s.num * r.den) = r / s := by
  rw [Int.neg_mul, Int.neg_mul, Rat.neg_divInt_neg, div_div]
theorem Rb.add {m n : Nat} {r s : Rat} (h : Rb m r) (k : Rb n s) : Rb (m + n + 1) (r + s) := by
  rw [← add_div]
  exact Rb.of (by have := den1 r; have := den1 s; exact Int.le_trans (by decide) (Int.mul_le_mul (show 1 ≤ (r.den : Int) from den1 r) (den1 s) (by decide) (by omega))) ((h.1.mul k.2).add ((k.1.mul h.2).mono (by omega))) ((h.2.mul k.2).mono (by omega))
theorem dd1 (r s : Rat) : 1 ≤ (r.den : Int) * s.den := Int.le_trans (by decide) (Int.mul_le_mul (den1 r) (den1 s) (by decide) (by have := den1 r; omega))
theorem Rb.sub {m n : Nat} {r s : Rat} (h : Rb m r) (k : Rb n s) : Rb (m + n + 1) (r - s) := by
  rw [← sub_div]
  exact Rb.of (dd1 r s) ((h.1.mul k.2).sub ((k.1.mul h.2).mono (by omega))) ((h.2.mul k.2).mono (by omega))
theorem Rb.mul {m n : Nat} {r s : Rat} (h : Rb m r) (k : Rb n s) : Rb (m + n) (r * s) := by
  rw [← mul_div]
  exact Rb.of (dd1 r s) (h.1.mul k.1) (h.2.mul k.2)
theorem Rb.div {m n : Nat} {r s : Rat} (h : Rb m r) (k : Rb n s) (hs : s ≠ 0) : Rb (m + n) (r / s) := by
  have hn : s.num ≠ 0 := fun e => hs (Rat.num_eq_zero.mp e)
  have d1 := den1 r
  by_cases hp : 0 < s.num
  · rw [← div_div]
    exact Rb.of (Int.le_trans (by decide) (Int.mul_le_mul (show 1 ≤ s.num by omega) d1 (by decide) (by omega))) (h.1.mul k.2) ((k.1.mul h.2).mono (by omega))
  · rw [← div_neg]
    exact Rb.of (Int.le_trans (by decide) (Int.mul_le_mul (show 1 ≤ -s.num by omega) d1 (by decide) (by omega))) (h.1.neg.mul k.2) ((k.1.neg.mul h.2).mono (by omega))

/-! ### fractions as values -/
def upD : PyData → Int
  | .int i => i
  | .list [a, _] | .tuple [a, _] => valD a
  | _ => 0
def dnD : PyData → Int
  | .list [_, b] | .tuple [_, b] => valD b
  | _ => 1
def valQ (d : PyData) : Rat := Rat.divInt (upD d) (dnD d)
/-- the reduced tuple -/
abbrev rv (r : Rat) : List V := [.int r.num, .int (r.den : Int)]
def rd (r : Rat) : PyData := .tuple [.int r.num, .int (r.den : Int)]
/-- v tells the fraction r, numbers below 2 ^ n -/
def Fr (q : Addr) (K : PySem.W.Frag) (H : Hp) (v : V) (r : Rat) (n : Nat) : Prop := ∃ d, Dq q K H v d ∧ isFrD d = true ∧ valQ d = r ∧ Bt n (upD d) ∧ Bt n (dnD d) ∧ 1 ≤ dnD d
theorem Fr.go {q : Addr} {K : PySem.W.Frag} {H H' : Hp} {v : V} {r : Rat} {n : Nat} (s : SameX q H H') (h : Fr q K H v r n) : Fr q K H' v r n := by
  obtain ⟨d, h1, h2⟩ := h
  exact ⟨d, h1.go s, h2⟩
theorem Fr.rb {q : Addr} {K : PySem.W.Frag} {H : Hp} {v : V} {r : Rat} {n : Nat} (h : Fr q K H v r n) : Rb n r := by
  obtain ⟨d, h1, h2, rfl, h4, h5, h6⟩ := h
  exact Rb.of h6 h4 h5
theorem Fr.mono {q : Addr} {K : PySem.W.Frag} {H : Hp} {v : V} {r : Rat} {m n : Nat} (h : Fr q K H v r m) (l : m ≤ n) : Fr q K H v r n := by
  obtain ⟨d, h1, h2, h3, h4, h5, h6⟩ := h
  exact ⟨d, h1, h2, h3, h4.mono l, h5.mono l, h6⟩
theorem rd_fr (r : Rat) : isFrD (rd r) = true := by
  show (true && decide (1 ≤ (r.den : Int))) = true
  rw [Bool.true_and]
  exact decide_eq_true (den1 r)
theorem rd_val (r : Rat) : valQ (rd r) = r := Rat.num_divInt_den r
theorem Fr.tup {q : Addr} {K : PySem.W.Frag} {H : Hp} {p : Addr} {r : Rat} {n : Nat} (h : SqT K H p (rv r)) (np : p ≠ q) (b : Rb n r) : Fr q K H (.ref p) r n :=
  ⟨rd r, .tup np h (.cons (.int _) (.cons (.int _) .nil)), rd_fr r, rd_val r, b.1, b.2, den1 r⟩
theorem Fr.int {q : Addr} {K : PySem.W.Frag} {H : Hp} {i : Int} {n : Nat} (b : Bt n i) (hn : 1 ≤ n) : Fr q K H (.int i) (Rat.divInt i 1) n :=
  ⟨.int i, .int i, rfl, rfl, b, Bt.mono (m := 1) (by show 1 < 2 ^ 1; decide) hn, by show (1 : Int) ≤ 1; omega⟩
/-- a new tuple tells it -/
def RetT (r : Rat) (H : Hp) (Q : VK) : Prop := ∀ p H', Same H H' → H p = none → H' p = some (.tup (rv r)) → Q (.ref p) H'
theorem RetT.same {r : Rat} {H H1 : Hp} {Q : VK} (k : RetT r H Q) (s : Same H H1) : RetT r H1 Q := fun p H' s' n e => k p H' (s.trans s') (s.free n) e
section
variable {K : PySem.W.Frag} {σ : L2.St} {H : Hp} {Q : VK}
theorem pg_or {X : Cx} {tg : Expr} {t1 t2 : TG} (h1 : PG X tg t1) (h2 : PG X tg t2) : PG X tg (fun v σ H Q => t1 v σ H Q ∨ t2 v σ H Q) := by
  refine ⟨fun pins s σ H v u Q I r h => ?_⟩
  cases h with
  | inl h => exact h1.run pins s σ H v u Q I r h
  | inr h => exact h2.run pins s σ H v u Q I r h
theorem g_tupG {a : Addr} {xs : List V} {n : Nat} {t : TGs} {R : L2.St → Hp → Prop} (h : SqT K H a xs) (hl : xs.length = n) (q : t xs σ H R) : gTup K n t (.ref a) σ H R := ⟨a, xs, rfl, h, hl, q⟩
theorem g_unl {a : Addr} {xs : List V} {n : Nat} {t : TGs} {R : L2.St → Hp → Prop} (h : SqL K H a xs) (hl : xs.length = n) (q : t xs σ H R) : gUnl K n t (.ref a) σ H R := ⟨a, xs, rfl, h, hl, q⟩
theorem g_consG {v : V} {vr : List V} {t : TG} {u : TGs} {R : L2.St → Hp → Prop} (q : t v σ H fun σ' H' => u vr σ' H' R) : gCons t u (v :: vr) σ H R := ⟨v, vr, rfl, q⟩
theorem g_nilG {R : L2.St → Hp → Prop} (q : R σ H) : gNil [] σ H R := ⟨rfl, q⟩
theorem g_seqG {a : Addr} {xs : List V} {n : Nat} {t : TGs} {R : L2.St → Hp → Prop} (h : Sq K H a xs) (hl : xs.length = n) (q : t xs σ H R) : (fun v σ H Q => gTup K n t v σ H Q ∨ gUnl K n t v σ H Q : TG) (.ref a) σ H R := by
  rcases h with h | h
  · exact .inr ⟨a, xs, rfl, h, hl, q⟩
  · exact .inl ⟨a, xs, rfl, h, hl, q⟩
theorem g_gcd {a b : Int} (q : Q (.int ((Nat.gcd a.natAbs b.natAbs : Nat) : Int)) H) : rGcd [.int a, .int b] H Q := ⟨a, b, rfl, q⟩
theorem g_mulU {i j : Int} (c : CMulU i j) (q : Q (.int (i * j)) H) : rMulU (.int i) (.int j) H Q := .inl ⟨i, j, rfl, rfl, c, q⟩
/-- reading a value: an int, or two ints -/
theorem posD_int {d : PyData} (h : posD d = true) : isIntD d = true ∧ 1 ≤ valD d := by
  cases d with
  | int i => exact ⟨rfl, of_decide_eq_true h⟩
  | _ => cases h
theorem Fr.cases {q : Addr} {v : V} {r : Rat} {n : Nat} (h : Fr q K H v r n) : (∃ i : Int, v = .int i ∧ Dq q K H v (.int i) ∧ r = Rat.divInt i 1 ∧ Bt n i) ∨
    ∃ a d x y, v = .ref a ∧ a ≠ q ∧ Dq q K H v d ∧ isIntD d = false ∧ isFrD d = true ∧ Sq K H a [.int x, .int y] ∧ 1 ≤ y ∧ r = Rat.divInt x y ∧ Bt n x ∧ Bt n y := by
  obtain ⟨d, h1, h2, h3, h4, h5, h6⟩ := h
  by_cases e : isSeqD d = true
  · obtain ⟨a, xs, ds, rfl, na, hs, hall, ed⟩ := h1.seq e
    by_cases e2 : ds.length = 2
    · obtain ⟨x, y, da, db, rfl, rfl, hx, hy⟩ := two_of hall (by rw [hall.len]; exact e2)
      have e3 := h2
      rw [(frD_of ed).1, Bool.and_eq_true] at e3
      obtain ⟨p1, p2⟩ := posD_int e3.2
      obtain ⟨rfl, ea⟩ := hx.int_of e3.1
      obtain ⟨rfl, eb⟩ := hy.int_of p1
      have u1 : upD d = valD da := by rcases ed with rfl | rfl <;> rfl
      have u2 : dnD d = valD db := by rcases ed with rfl | rfl <;> rfl
      have u3 : isIntD d = false := by rcases ed with rfl | rfl <;> rfl
      rw [u1] at h4
      rw [u2] at h5
      refine .inr ⟨a, d, valD da, valD db, rfl, na, h1, u3, h2, hs, p2, ?_, h4, h5⟩
      rw [← h3]
      unfold valQ
      rw [u1, u2]
    · rw [(frD_two ed e2).1] at h2
      cases h2
  · cases h1 with
    | int i => exact .inl ⟨i, rfl, .int i, h3.symm, h4⟩
    | lst _ _ _ => exact absurd rfl e
    | tup _ _ _ => exact absurd rfl e
    | _ => cases h2
end
/-! ### the promises -/
def sp_reduced (K : PySem.W.Frag) : Sp := fun vs H Q _ => ∃ (u d : Int), vs = [.int u, .int d] ∧ 1 ≤ d ∧ Bt 8000 d ∧ RetT (Rat.divInt u d) H Q
def sp_read (K : PySem.W.Frag) : Sp := fun vs H Q _ => ∃ q v part r n, vs = [v, part] ∧ Fr q K H v r n ∧ n ≤ 8000 ∧ RetT r H Q
def sp_frof (K : PySem.W.Frag) : Sp := fun vs H Q _ => ∃ q v r n, vs = [v] ∧ Fr q K H v r n ∧ n ≤ 8000 ∧ RetT r H Q
def sp_bin (f : Rat → Rat → Rat) (K : PySem.W.Frag) : Sp := fun vs H Q _ => ∃ q v1 v2 r1 r2 m n, vs = [v1, v2] ∧ Fr q K H v1 r1 m ∧ Fr q K H v2 r2 n ∧ m + n ≤ 7000 ∧ RetT (f r1 r2) H Q
def sp_divd (K : PySem.W.Frag) : Sp := fun vs H Q _ => ∃ q v1 v2 r1 r2 m n, vs = [v1, v2] ∧ Fr q K H v1 r1 m ∧ Fr q K H v2 r2 n ∧ m + n ≤ 7000 ∧ r2 ≠ 0 ∧ RetT (r1 / r2) H Q
end Mf
namespace Mf
open PySem PySem.Spec PyProof.Rows L2
/-! ### what the laws draw, and how they look -/
/-- numbers that can be shown -/
def Shw (d : PyData) : Prop := d.showable = true ∧ d.leavesShort 1921 = true
theorem shw_int {i : Int} {n : Nat} (b : Bt n i) (l : n ≤ 1900) : Shw (.int i) := by
  have h := b.show l
  refine ⟨decide_eq_true h, ?_⟩
  show decide ((PyData.shown (.int i)).length ≤ 1921) = true
  exact decide_eq_true (int_text_len_1921 h)
theorem int_w {i : Int} {n : Nat} (b : Bt n i) (l : n ≤ 1900) : (PyData.int i).weight ≤ 1921 := by
  have h := b.show l
  show (if (i == 0) = true then 0 else i.natAbs.log2 + 1) ≤ 1921
  split <;> omega
theorem shw_tup2 {a b : PyData} (h1 : Shw a) (h2 : Shw b) : Shw (.tuple [a, b]) := by
  constructor
  · show (a.showable && (b.showable && true)) = true
    rw [h1.1, h2.1] <;> rfl
  · show (a.leavesShort 1921 && (b.leavesShort 1921 && true)) = true
    rw [h1.2, h2.2] <;> rfl
theorem shw_lst2 {a b : PyData} (h1 : Shw a) (h2 : Shw b) : Shw (.list [a, b]) := by
  constructor
  · show (a.showable && (b.showable && true)) = true
    rw [h1.1, h2.1] <;> rfl
  · show (a.leavesShort 1921 && (b.leavesShort 1921 && true)) = true
    rw [h1.2, h2.2] <;> rfl
theorem Shw.len {d : PyData} (h : Shw d) (w : d.weight ≤ 8000) : d.shown.length ≤ sizeLine := by
  have := PyData.shown_le 1921 (by decide) d h.2
  have e : sizeLine = 16777216 := sizeLine_eq
  have : (1921 + 2) * d.weight ≤ (1921 + 2) * 8000 := Nat.mul_le_mul_left _ w
  omega
/-- what a fraction's data is -/
theorem fr_shape {d : PyData} (h : isFrD d = true) : (∃ i, d = .int i) ∨ ∃ x y, 1 ≤ y ∧ (d = .list [.int x, .int y] ∨ d = .tuple [.int x, .int y]) := by
  have two : ∀ a b : PyData, (isIntD a && posD b) = true → ∃ x y, 1 ≤ y ∧ a = .int x ∧ b = .int y := by
    intro a b e
    rw [Bool.and_eq_true] at e
    obtain ⟨p1, p2⟩ := posD_int e.2
    cases a with
    | int x => cases b with
      | int y => exact ⟨x, y, p2, rfl, rfl⟩
      | _ => cases p1
    | _ => cases e.1
  cases d with
  | int i => exact .inl ⟨i, rfl⟩
  | list ds =>
    match ds, h with
    | [a, b], h =>
      obtain ⟨x, y, h1, rfl, rfl⟩ := two a b h
      exact .inr ⟨x, y, h1, .inl rfl⟩
    | [], h => cases h
    | [_], h => cases h
    | _ :: _ :: _ :: _, h => cases h
  | tuple ds =>
    match ds, h with
    | [a, b], h =>
      obtain ⟨x, y, h1, rfl, rfl⟩ := two a b h
      exact .inr ⟨x, y, h1, .inr rfl⟩
    | [], h => cases h
    | [_], h => cases h
    | _ :: _ :: _ :: _, h => cases h
  | _ => cases h
theorem fr_dn {d : PyData} (h : isFrD d = true) : 1 ≤ dnD d := by
  rcases fr_shape h with ⟨i, rfl⟩ | ⟨x, y, hy, rfl | rfl⟩
  · show (1 : Int) ≤ 1; omega
  · exact hy
  · exact hy
theorem fr_shw {d : PyData} {n : Nat} (h : isFrD d = true) (b1 : Bt n (upD d)) (b2 : Bt n (dnD d)) (l : n ≤ 1900) : Shw d ∧ d.weight ≤ 3850 ∧ d.depth ≤ 5 ∧ noDct d = true ∧ d.hasDict = false ∧ d.canLay0 = true := by
  rcases fr_shape h with ⟨i, rfl⟩ | ⟨x, y, hy, rfl | rfl⟩
  · exact ⟨shw_int b1 l, Nat.le_trans (int_w b1 l) (by decide), by simp [PyData.depth], rfl, rfl, rfl⟩
  · exact ⟨shw_lst2 (shw_int b1 l) (shw_int b2 l), by have := int_w b1 l; have := int_w b2 l; simp only [upD, dnD, valD] at *; rw [PyData.weight]; simp only [PyData.weightAll]; omega, by simp [PyData.depth, PyData.depthAll], rfl, rfl, rfl⟩
  · exact ⟨shw_tup2 (shw_int b1 l) (shw_int b2 l), by have := int_w b1 l; have := int_w b2 l; simp only [upD, dnD, valD] at *; rw [PyData.weight]; simp only [PyData.weightAll]; omega, by simp [PyData.depth, PyData.depthAll], rfl, rfl, rfl⟩
section
variable {q : Addr} {K : PySem.W.Frag} {σ : L2.St} {H : Hp} {Q : VK}
theorem Fr.of {v : V} {d : PyData} {n : Nat} (h : Dq q K H v d) (f : isFrD d = true) (b1 : Bt n (upD d)) (b2 : Bt n (dnD d)) : Fr q K H v (valQ d) n := ⟨d, h, f, rfl, b1, b2, fr_dn f⟩
theorem cut_tt {t : TT} {R : Bool → Hp → Prop} {b : Bool} (h1 : ∀ R' : Bool → Hp → Prop, (∀ H', Same H H' → R' b H') → t σ H R') (h2 : ∀ H', Same H H' → R b H') : t σ H R := h1 R h2
/-- two tuples of one fraction -/
theorem g_neFF {p1 p2 : Addr} {r : Rat} (e1 : SqT K H p1 (rv r)) (e2 : SqT K H p2 (rv r)) (k : Q (.bl false) H) : rNeU K (.ref p1) (.ref p2) H Q := by
  refine .inr ⟨rd r, rd r, .tup e1 (.cons (.int _) (.cons (.int _) .nil)), .tup e2 (.cons (.int _) (.cons (.int _) .nil)), by rfl, by rfl, ?_⟩
  rw [SeqAt.eqv_refl (rd r) (by rfl)]
  exact k
/-- the text of a pair of ints, of two fractions -/
theorem g_reprT {p : Addr} {x y : Int} {n : Nat} (e : SqT K H p [.int x, .int y]) (bx : Bt n x) (by_ : Bt n y) (l : n ≤ 1900) (k : Q (.str (PyData.tuple [.int x, .int y]).shown) H) : rReprU K [.ref p] H Q :=
  g_repr (.tup e (.cons (.int _) (.cons (.int _) .nil))) (shw_tup2 (shw_int bx l) (shw_int by_ l)).1 rfl (by simp [PyData.depth, PyData.depthAll]) ((shw_tup2 (shw_int bx l) (shw_int by_ l)).len (by have := int_w bx l; have := int_w by_ l; rw [PyData.weight]; simp only [PyData.weightAll]; omega)) k
theorem g_reprFF {p : Addr} {v1 v2 : V} {d1 d2 : PyData} {n : Nat} (e : SqL K H p [v1, v2]) (h1 : Dq q K H v1 d1) (h2 : Dq q K H v2 d2) (f1 : isFrD d1 = true) (f2 : isFrD d2 = true)
    (b1 : Bt n (upD d1)) (b2 : Bt n (dnD d1)) (b3 : Bt n (upD d2)) (b4 : Bt n (dnD d2)) (l : n ≤ 1900) (k : Q (.str (PyData.list [d1, d2]).shown) H) : rReprU K [.ref p] H Q := by
  obtain ⟨s1, w1, e1, n1, g1, _⟩ := fr_shw f1 b1 b2 l
  obtain ⟨s2, w2, e2, n2, g2, _⟩ := fr_shw f2 b3 b4 l
  refine g_repr (.lst e (.cons (h1.dp n1) (.cons (h2.dp n2) .nil))) (shw_lst2 s1 s2).1 ?_ ?_ ((shw_lst2 s1 s2).len ?_) k
  · show (d1.hasDict || (d2.hasDict || false)) = false
    rw [g1, g2] <;> rfl
  · simp only [PyData.depth, PyData.depthAll]
    omega
  · rw [PyData.weight]
    simp only [PyData.weightAll]
    omega
end
theorem cross {r : Rat} {U D : Int} (hD : 1 ≤ D) (e : r = Rat.divInt U D) : r.num * D = U * r.den := by
  have h : Rat.divInt r.num r.den = Rat.divInt U D := by rw [Rat.num_divInt_den]; exact e
  exact (Rat.divInt_eq_divInt_iff (by have := den1 r; omega) (by omega)).mp h
theorem div_cross {a b c d : Int} : Rat.divInt a b / Rat.divInt c d = Rat.divInt (a * d * (if 0 < c then 1 else -1)) ((if c < 0 then -c else c) * b) ∨ c = 0 := by
  by_cases hc : c = 0
  · exact .inr hc
  · refine .inl ?_
    rw [Rat.div_def, Rat.inv_divInt, Rat.divInt_mul_divInt]
    by_cases h : 0 < c
    · rw [if_pos h, if_neg (by omega), Int.mul_one, Int.mul_comm b c]
    · rw [if_neg h, if_pos (by omega), Int.mul_neg, Int.mul_one, Int.neg_mul, Rat.neg_divInt_neg, Int.mul_comm b c]
theorem valQ_ne {d : PyData} (h : isFrD d = true) (hc : upD d ≠ 0) : valQ d ≠ 0 := by
  intro e
  have h1 := fr_dn h
  have e2 : Rat.divInt (upD d) (dnD d) = Rat.divInt 0 1 := by
    rw [Rat.zero_divInt]
    exact e
  have := (Rat.divInt_eq_divInt_iff (by omega) (by decide)).mp e2
  omega
theorem coprime_r (r : Rat) : Nat.gcd r.num.natAbs ((r.den : Int)).natAbs = 1 := by
  rw [Int.natAbs_natCast]
  exact r.reduced
/-- a drawn fraction; a pair; the law's own look at a fraction -/
def sp_lfrac (K : PySem.W.Frag) : Sp := fun vs H Q _ => ∃ (q : Addr) (t m : Int), vs = [.ref q, .int m] ∧ Qy K q t H ∧ t ≤ 999990 ∧ 1 ≤ m ∧ m ≤ 10000000000000000000000000000000000000000 ∧
  ∀ t' H' v d, SameX q H H' → Qy K q t' H' → t ≤ t' → t' ≤ t + 4 → Dq q K H' v d → isFrD d = true → Bt 140 (upD d) → Bt 140 (dnD d) → Q v H'
def sp_lpair (K : PySem.W.Frag) : Sp := fun vs H Q _ => ∃ (q : Addr) (v : V) (d : PyData), vs = [v] ∧ Dq q K H v d ∧ isFrD d = true ∧
  ∀ p H', Same H H' → H p = none → H' p = some (.tup [.int (upD d), .int (dnD d)]) → Q (.ref p) H'
def sp_lis (K : PySem.W.Frag) : Sp := fun vs H Q _ => ∃ (p : Addr) (U D : Int) (r : Rat) (n : Nat), vs = [.ref p, .int U, .int D] ∧ SqT K H p (rv r) ∧ 1 ≤ D ∧ r = Rat.divInt U D ∧ Rb n r ∧ Bt n U ∧ Bt n D ∧ n ≤ 1900 ∧ ∀ H', Same H H' → Q (.bl true) H'
theorem fr_pair {x y : Int} {n : Nat} (hy : 1 ≤ y) (bx : Bt n x) (b : Bt n y) : (isFrD (.tuple [.int x, .int y]) = true ∧ Bt n (upD (.tuple [.int x, .int y])) ∧ Bt n (dnD (.tuple [.int x, .int y]))) ∧
    (isFrD (.list [.int x, .int y]) = true ∧ Bt n (upD (.list [.int x, .int y])) ∧ Bt n (dnD (.list [.int x, .int y]))) := by
  have e : (true && decide (1 ≤ y)) = true := by rw [Bool.true_and]; exact decide_eq_true hy
  exact ⟨⟨e, bx, b⟩, ⟨e, bx, b⟩⟩
end Mf
namespace Mf
open PySem PySem.Spec PyProof.Rows L2
/-! ### drawn fractions by their addresses -/
/-- v tells x / y; where it is an object, its address is not among ex -/
def Fz (ex : Addr → Prop) (H : Hp) (v : V) (x y : Int) : Prop := (v = .int x ∧ y = 1) ∨ ∃ a, v = .ref a ∧ ¬ ex a ∧ (H a = some (.tup [.int x, .int y]) ∨ H a = some (.lst [.int x, .int y]))
theorem Fz.go {ex ex' : Addr → Prop} {H H' : Hp} {v : V} {x y : Int} (h : Fz ex H v x y) (s : ∀ b o, ¬ ex b → H b = some o → H' b = some o ∧ ¬ ex' b) : Fz ex' H' v x y := by
  rcases h with h | ⟨a, rfl, n, e⟩
  · exact .inl h
  · refine .inr ⟨a, rfl, ?_, ?_⟩
    · rcases e with e | e
      · exact (s _ _ n e).2
      · exact (s _ _ n e).2
    · rcases e with e | e
      · exact .inl (s _ _ n e).1
      · exact .inr (s _ _ n e).1
/-- the data -/
theorem Fz.dq {ex : Addr → Prop} {H : Hp} {v : V} {x y : Int} {q : Addr} {K : PySem.W.Frag} {n : Nat} (h : Fz ex H v x y) (hq : ex q) (hy : 1 ≤ y) (bx : Bt n x) (b : Bt n y) :
    ∃ d, Dq q K H v d ∧ isFrD d = true ∧ upD d = x ∧ dnD d = y := by
  rcases h with ⟨rfl, rfl⟩ | ⟨a, rfl, na, e | e⟩
  · exact ⟨.int x, .int x, rfl, rfl, rfl⟩
  · have na' : a ≠ q := fun z => na (z ▸ hq)
    exact ⟨.tuple [.int x, .int y], .tup na' (tupU e) (.cons (.int _) (.cons (.int _) .nil)), (fr_pair hy bx b).1.1, rfl, rfl⟩
  · have na' : a ≠ q := fun z => na (z ▸ hq)
    exact ⟨.list [.int x, .int y], .lst na' (seqU e) (.cons (.int _) (.cons (.int _) .nil)), (fr_pair hy bx b).2.1, rfl, rfl⟩
def sp_lfz (K : PySem.W.Frag) : Sp := fun vs H Q _ => ∃ (q : Addr) (t m : Int), vs = [.ref q, .int m] ∧ Qy K q t H ∧ t ≤ 999990 ∧ 1 ≤ m ∧ m ≤ 10000000000000000000000000000000000000000 ∧
  ∀ t' H' v x y, SameX q H H' → Qy K q t' H' → t ≤ t' → t' ≤ t + 4 → Fz (fun a => H a ≠ none) H' v x y → 1 ≤ y → Bt 140 x → Bt 140 y → Q v H'
/-- several -/
structure Fq where
  x : Int
  y : Int
  pos : 1 ≤ y
  bx : Bt 140 x
  by_ : Bt 140 y
inductive FzAll (ex : Addr → Prop) (H : Hp) : List V → List Fq → Prop
  | nil : FzAll ex H [] []
  | cons {v : V} {vs : List V} {f : Fq} {fs : List Fq} : Fz ex H v f.x f.y → FzAll ex H vs fs → FzAll ex H (v :: vs) (f :: fs)
theorem FzAll.go {ex ex' : Addr → Prop} {H H' : Hp} (s : ∀ b o, ¬ ex b → H b = some o → H' b = some o ∧ ¬ ex' b) : ∀ {vs : List V} {fs : List Fq}, FzAll ex H vs fs → FzAll ex' H' vs fs
  | _, _, .nil => .nil
  | _, _, .cons h t => .cons (h.go s) (FzAll.go s t)
theorem FzAll.app {ex : Addr → Prop} {H : Hp} {v : V} {f : Fq} (h : Fz ex H v f.x f.y) : ∀ {vs : List V} {fs : List Fq}, FzAll ex H vs fs → FzAll ex H (vs ++ [v]) (fs ++ [f])
  | _, _, .nil => .cons h .nil
  | _, _, .cons g t => .cons g (FzAll.app h t)
theorem FzAll.len {ex : Addr → Prop} {H : Hp} : ∀ {vs : List V} {fs : List Fq}, FzAll ex H vs fs → vs.length = fs.length
  | _, _, .nil => rfl
  | _, _, .cons _ t => congrArg Nat.succ (FzAll.len t)
def Fq.q (f : Fq) : Rat := Rat.divInt f.x f.y
theorem FzAll.dq {ex : Addr → Prop} {H : Hp} {q : Addr} {K : PySem.W.Frag} (hq : ex q) : ∀ {vs : List V} {fs : List Fq}, FzAll ex H vs fs →
    ∃ ds, DqAll q K H vs ds ∧ (∀ d ∈ ds, isFrD d = true ∧ Bt 140 (upD d) ∧ Bt 140 (dnD d)) ∧ ds.map valQ = fs.map Fq.q
  | _, _, .nil => ⟨[], .nil, fun _ h => absurd h List.not_mem_nil, rfl⟩
  | _, _, .cons (f := f) h t => by
    obtain ⟨ds, h1, h2, h3⟩ := FzAll.dq (K := K) hq t
    obtain ⟨d, k1, k2, k3, k4⟩ := h.dq (K := K) hq f.pos f.bx f.by_
    refine ⟨d :: ds, .cons k1 h1, ?_, ?_⟩
    · intro e he
      rcases List.mem_cons.mp he with rfl | he
      · exact ⟨k2, by rw [k3]; exact f.bx, by rw [k4]; exact f.by_⟩
      · exact h2 e he
    · rw [List.map_cons, List.map_cons, h3]
      show valQ d :: _ = f.q :: _
      unfold valQ Fq.q
      rw [k3, k4]
/-! ### sums -/
def sumQ (rs : List Rat) : Rat := rs.foldl (· + ·) 0
theorem sumQ_snoc (rs : List Rat) (r : Rat) : sumQ (rs ++ [r]) = sumQ rs + r := by
  unfold sumQ
  rw [List.foldl_append]
  rfl
theorem Rb_fold : ∀ (rs : List Rat) (r0 : Rat) (m : Nat), Rb m r0 → (∀ r ∈ rs, Rb 140 r) → Rb (m + 141 * rs.length) (rs.foldl (· + ·) r0)
  | [], r0, m, h0, _ => h0
  | r :: rs, r0, m, h0, h => by
    have h1 := Rb_fold rs (r0 + r) (m + 140 + 1) (h0.add (h r List.mem_cons_self)) fun e he => h e (List.mem_cons_of_mem _ he)
    exact h1.mono (by rw [List.length_cons]; omega)
theorem Rb0 : Rb 1 0 := ⟨by show (0 : Int).natAbs < _; decide, by show ((1 : Nat) : Int).natAbs < _; decide⟩
theorem Rb_sum (rs : List Rat) (h : ∀ r ∈ rs, Rb 140 r) : Rb (1 + 141 * rs.length) (sumQ rs) := Rb_fold rs 0 1 Rb0 h
/-- the sum of a list or tuple of fractions -/
def sp_sum (K : PySem.W.Frag) : Sp := fun vs H Q _ => ∃ (q p : Addr) (xs : List V) (ds : List PyData), vs = [.ref p] ∧ H q ≠ none ∧ p ≠ q ∧ Sq K H p xs ∧ DqAll q K H xs ds ∧ (∀ d ∈ ds, isFrD d = true ∧ Bt 140 (upD d) ∧ Bt 140 (dnD d)) ∧ ds.length ≤ 9 ∧ RetT (sumQ (ds.map valQ)) H Q
def sp_mixd (K : PySem.W.Frag) : Sp := fun vs H Q _ => ∃ q v1 v2 v3 r1 r2 r3, vs = [v1, v2, v3] ∧ H q ≠ none ∧ Fr q K H v1 r1 500 ∧ Fr q K H v2 r2 500 ∧ Fr q K H v3 r3 500 ∧ RetT ((1 - r3) * r1 + r3 * r2) H Q
def sgn (n : Int) : Int := if n < 0 then -1 else if 0 < n then 1 else 0
def sp_sign (K : PySem.W.Frag) : Sp := fun vs H Q _ => ∃ q v r n, vs = [v] ∧ Fr q K H v r n ∧ n ≤ 8000 ∧ ∀ H', Same H H' → Q (.int (sgn r.num)) H'
theorem sgn_div {x y : Int} (hy : 1 ≤ y) : sgn (Rat.divInt x y).num = sgn x := by
  have h1 := cross hy rfl (r := Rat.divInt x y) (U := x)
  have h2 := den1 (Rat.divInt x y)
  generalize (Rat.divInt x y).num = n at *
  generalize ((Rat.divInt x y).den : Int) = d at *
  unfold sgn
  by_cases a : n < 0
  · have : n * y < 0 := Int.mul_neg_of_neg_of_pos a (by omega)
    have : x < 0 := by
      by_cases z : x < 0
      · exact z
      · have := Int.mul_nonneg (show 0 ≤ x by omega) (show 0 ≤ d by omega)
        omega
    rw [if_pos a, if_pos this]
  · rw [if_neg a]
    by_cases b : 0 < n
    · have : 0 < n * y := Int.mul_pos b (by omega)
      have : 0 < x := by
        by_cases z : 0 < x
        · exact z
        · have := Int.mul_nonneg (show 0 ≤ -x by omega) (show 0 ≤ d by omega)
          rw [Int.neg_mul] at this
          omega
      rw [if_pos b, if_neg (by omega), if_pos this]
    · have e : n = 0 := by omega
      rw [e, Int.zero_mul] at h1
      have : x = 0 := by
        rcases Int.mul_eq_zero.mp h1.symm with z | z
        · exact z
        · omega
      rw [if_neg b, this]
      decide
section
variable {K : PySem.W.Frag} {σ : L2.St} {H : Hp} {Q : VK}
/-- for over a list or a tuple that stands in a slot -/
theorem g_forS {i0 j : Nat} {a : Addr} {xs : List V} {tb : TS} {D : Ends} (e : σ[i0]? = some (some (.ref a))) (hs : Sq K H a xs) (Pv : Nat → L2.St → Hp → Prop) (h0 : Pv 0 σ H) (hx : ∀ i σ' H', Pv i σ' H' → Same H H')
    (hb : ∀ i x σ' H', xs[i]? = some x → Pv i σ' H' → tb ⟨Pv (i + 1), D.rt, D.nx, Pv (i + 1)⟩ (σ'.set j (some x)) H') (hd : ∀ σ' H', Pv xs.length σ' H' → D.nx σ' H') :
    tFor (fun σ H R => iList K (tVar i0) σ H R ∨ iTup K (tVar i0) σ H R) (gName j) tb D σ H := by
  rcases hs with hs | hs
  · exact .inl ⟨.ref a, e, a, rfl, ⟨xs, hs⟩, for_list (xs := xs) Pv h0 (fun i σ' H' _ p => (hx i σ' H' p).seq hs) (fun i x σ' H' ex p => hb i x σ' H' ex p) hd⟩
  · exact .inr ⟨.ref a, e, a, rfl, ⟨xs, hs⟩, for_tup (xs := xs) Pv h0 (fun i σ' H' _ p => (Same.x (q := a + 1) (hx i σ' H' p)).tup (Nat.ne_of_lt (Nat.lt_succ_self a)) hs) (fun i x σ' H' ex p => hb i x σ' H' ex p) hd⟩
theorem g_forL {i0 j : Nat} {a : Addr} {xs : List V} {tb : TS} {D : Ends} (e : σ[i0]? = some (some (.ref a))) (hs : SqL K H a xs) (Pv : Nat → L2.St → Hp → Prop) (h0 : Pv 0 σ H) (hx : ∀ i σ' H', Pv i σ' H' → Same H H')
    (hb : ∀ i x σ' H', xs[i]? = some x → Pv i σ' H' → tb ⟨Pv (i + 1), D.rt, D.nx, Pv (i + 1)⟩ (σ'.set j (some x)) H') (hd : ∀ σ' H', Pv xs.length σ' H' → D.nx σ' H') :
    tFor (iList K (tVar i0)) (gName j) tb D σ H :=
  ⟨.ref a, e, a, rfl, ⟨xs, hs⟩, for_list (xs := xs) Pv h0 (fun i σ' H' _ p => (hx i σ' H' p).seq hs) (fun i x σ' H' ex p => hb i x σ' H' ex p) hd⟩
theorem g_yes {R : Bool → Hp → Prop} (q : R true H) : tYes σ H R := q
theorem ne_trk {q p : Addr} (h : H q ≠ none) (e : H p = none) : p ≠ q := fun z => h (z ▸ e)
theorem Same.trk {H' : Hp} {q : Addr} (s : Same H H') (h : H q ≠ none) : H' q ≠ none := by
  cases e : H q with
  | none => exact absurd e h
  | some o =>
    rw [s _ _ e]
    exact Option.some_ne_none _
theorem fresh_x {q p : Addr} {Hz : Hp} (sx : SameX q H Hz) (hq : ∃ o, Hz q = some o) (h : Hz p = none) : ¬ (H p ≠ none) := by
  intro z
  obtain ⟨oq, hq⟩ := hq
  have npq : p ≠ q := by
    intro e
    rw [e, hq] at h
    cases h
  cases e : H p with
  | none => exact z e
  | some o =>
    rw [sx _ _ npq e] at h
    cases h
theorem DqAll.get {q : Addr} : ∀ {xs : List V} {ds : List PyData} {i : Nat} {x : V}, DqAll q K H xs ds → xs[i]? = some x → ∃ d, ds[i]? = some d ∧ Dq q K H x d
  | _, _, _, _, .nil, e => by simp at e
  | _, _, 0, x, .cons h _, e => by
    cases e
    exact ⟨_, rfl, h⟩
  | _, _, i + 1, x, .cons _ t, e => by
    obtain ⟨d, h1, h2⟩ := DqAll.get (i := i) (x := x) t (by simpa using e)
    exact ⟨d, by simpa using h1, h2⟩
theorem all_rep (n : Nat) : (List.replicate n true).all id = true := by
  induction n with
  | zero => rfl
  | succ n ih => rw [List.replicate_succ, List.all_cons, ih] <;> rfl
theorem take_snoc {α : Type} {l : List α} {i : Nat} {x : α} (h : l[i]? = some x) : l.take (i + 1) = l.take i ++ [x] := by
  rw [List.take_add_one, h]
  rfl
theorem mix_cross {A B C D E F : Int} (hB : 1 ≤ B) (hD : 1 ≤ D) (hF : 1 ≤ F) : (1 - Rat.divInt E F) * Rat.divInt A B + Rat.divInt E F * Rat.divInt C D = Rat.divInt ((F - E) * A * D + E * C * B) (F * B * D) := by
  have e1 : (1 : Rat) = Rat.divInt F F := (Rat.divInt_self' (by omega)).symm
  have n1 : F * F * B ≠ 0 := Int.mul_ne_zero (Int.mul_ne_zero (by omega) (by omega)) (by omega)
  have n2 : F * D ≠ 0 := Int.mul_ne_zero (by omega) (by omega)
  have n3 : F * B * D ≠ 0 := Int.mul_ne_zero (Int.mul_ne_zero (by omega) (by omega)) (by omega)
  rw [e1, Rat.divInt_sub_divInt _ _ (by omega) (by omega), Rat.divInt_mul_divInt, Rat.divInt_mul_divInt, Rat.divInt_add_divInt _ _ n1 n2, Rat.divInt_eq_divInt_iff (Int.mul_ne_zero n1 n2) n3]
  grind
theorem sgn_eq (n : Int) : (if decide (0 < n) = true then (1 : Int) else 0) - (if decide (n < 0) = true then 1 else 0) = sgn n := by
  unfold sgn
  by_cases a : n < 0
  · rw [if_pos a, decide_eq_true a, decide_eq_false (by omega)]
    rfl
  · rw [if_neg a, decide_eq_false a]
    by_cases b : 0 < n
    · rw [if_pos b, decide_eq_true b]
      rfl
    · rw [if_neg b, decide_eq_false b]
      rfl
theorem sgn_b (n : Int) : Bt 2 (sgn n) := by
  unfold sgn
  split
  · show (-1 : Int).natAbs < 2 ^ 2; decide
  · split
    · show (1 : Int).natAbs < 2 ^ 2; decide
    · show (0 : Int).natAbs < 2 ^ 2; decide
theorem Qy.trk {t : Int} {q : Addr} (h : Qy K q t H) : H q ≠ none := by
  obtain ⟨o, e⟩ := h.at
  rw [e]
  exact Option.some_ne_none _
theorem one1 : Rat.divInt 1 1 = 1 := Rat.divInt_self' (by decide)
theorem zero1 : Rat.divInt 0 1 = 0 := Rat.zero_divInt 1
theorem cut_lc {te : TE} (P : Hp → Addr → Prop) (h1 : ∀ Q' : VK, (∀ H1 D, Same H H1 → P H1 D → Q' (.ref D) H1) → te σ H Q') (h2 : ∀ H1 D, Same H H1 → P H1 D → Q (.ref D) H1) : te σ H Q := h1 Q h2
theorem g_all {a : Addr} {bs : List Bool} (h : SqL K H a (bs.map V.bl)) (q : Q (.bl (bs.all id)) H) : rAll K [.ref a] H Q := ⟨a, bs, rfl, h, q⟩
theorem g_thenT {te : TE} (q : te σ H fun x H1 => kTup K x H1 Q) : tThen te (kTup K) σ H Q := q
theorem g_tupOf {a : Addr} {xs : List V} (h : SqL K H a xs) (q : ∀ p H2, H p = none → Same H H2 → H2 p = some (.tup xs) → Q (.ref p) H2) : kTup K (.ref a) H Q :=
  .inl ⟨a, xs, rfl, h, fun p hp => q p _ hp (same_new hp) upd_same⟩
theorem g_reprII {p : Addr} {x y : Int} {n : Nat} (e : SqL K H p [.int x, .int y]) (bx : Bt n x) (by_ : Bt n y) (l : n ≤ 1900) (k : Q (.str (PyData.list [.int x, .int y]).shown) H) : rReprU K [.ref p] H Q :=
  g_repr (.lst e (.cons (.int _) (.cons (.int _) .nil))) (shw_lst2 (shw_int bx l) (shw_int by_ l)).1 rfl (by simp [PyData.depth, PyData.depthAll]) ((shw_lst2 (shw_int bx l) (shw_int by_ l)).len (by have := int_w bx l; have := int_w by_ l; rw [PyData.weight]; simp only [PyData.weightAll]; omega)) k
end
end Mf
namespace Mf
open PySem PySem.Spec PyProof.Rows L2
local macro_rules | `(tactic| walk_at "mf1") => `(tactic| first
  | ((with_reducible apply g_var); exact rfl)
  | with_reducible first
    | refine g_c ?_ | refine g_op ?_ | refine g_un ?_ | refine g_cb ?_ | refine g_cl ?_ | refine g_clk ?_ | refine g_nil ?_ | refine g_cons ?_
    | refine g_tB ?_ | refine g_test ?_ | refine g_bl ?_ | refine g_and ?_ | refine g_or ?_ | refine g_not ?_ | refine g_andV ?_ | refine g_orV ?_ | refine g_notV ?_
    | refine g_if ?_ | refine g_ifS ?_ | refine g_seq ?_ | refine g_next ?_ | refine g_ret ?_ | refine g_drop ?_ | refine g_asg ?_ | refine g_name ?_ | refine g_sub ?_
    | refine g_int ?_ | refine g_intB ?_ | refine g_abs ?_ | refine g_I0 ?_ | refine g_addI ?_ | refine g_U ?_ | refine g_isNn ?_ | refine g_isNi ?_ | refine g_notN ?_ | refine g_notT1 ?_ | refine g_notT2 ?_ | refine g_notT3 ?_ | refine g_notT4 ?_ | refine g_notTb ?_ | refine g_notTi ?_ | refine g_eqI ?_ | refine g_neI ?_ | refine g_neSs ?_ | refine g_neS ?_ | refine g_eqS ?_
    | refine g_iteT ?_ | refine g_iteF ?_ | refine g_iteNT ?_ | refine g_iteNF ?_ | refine g_lst ?_ | refine g_tup ?_ | refine g_seqP ?_ | refine g_sl ?_ | refine g_noPart ?_ | refine g_part ?_ | refine g_yes ?_ | refine g_thenT ?_ | refine g_consG ?_ | refine g_nilG ?_ | refine g_ii ?_ | refine g_par ?_ | refine g_par3 ?_ | refine g_vv ?_ | refine g_vvv ?_ | refine g_reprB ?_ | refine g_lcL ?_ | refine g_lcR ?_
  | ((with_reducible refine g_mod ?_ ?_); (first | omega | decide))
  | ((with_reducible refine g_div ?_ ?_ ?_); (first | omega | decide); (first | assumption | decide))
  | ((with_reducible refine g_mulL ?_ ?_ ?_); (first | omega | decide); (first | omega | decide))
  | ((with_reducible refine g_mulR ?_ ?_ ?_); (first | omega | decide); (first | omega | decide))
  | ((with_reducible refine g_pow ?_ ?_ ?_ ?_); decide; decide; (first | omega | decide))
  | dsimp only)
local macro_rules | `(tactic| walk_at "mf1s") => `(tactic| first
  | ((with_reducible apply g_var); exact rfl)
  | with_reducible first
    | refine g_c ?_ | refine g_op ?_ | refine g_un ?_ | refine g_cb ?_ | refine g_cl ?_ | refine g_clk ?_ | refine g_nil ?_ | refine g_cons ?_
    | refine g_tB ?_ | refine g_test ?_ | refine g_bl ?_ | refine g_and ?_ | refine g_or ?_ | refine g_not ?_ | refine g_andV ?_ | refine g_orV ?_ | refine g_notV ?_
    | refine g_if ?_ | refine g_ifS ?_ | refine g_next ?_ | refine g_ret ?_ | refine g_drop ?_ | refine g_asg ?_ | refine g_name ?_ | refine g_sub ?_
    | refine g_int ?_ | refine g_intB ?_ | refine g_abs ?_ | refine g_I0 ?_ | refine g_addI ?_ | refine g_U ?_ | refine g_isNn ?_ | refine g_isNi ?_ | refine g_notN ?_ | refine g_notT1 ?_ | refine g_notT2 ?_ | refine g_notT3 ?_ | refine g_notT4 ?_ | refine g_notTb ?_ | refine g_notTi ?_ | refine g_eqI ?_ | refine g_neI ?_ | refine g_neSs ?_ | refine g_neS ?_ | refine g_eqS ?_
    | refine g_iteT ?_ | refine g_iteF ?_ | refine g_iteNT ?_ | refine g_iteNF ?_ | refine g_lst ?_ | refine g_tup ?_ | refine g_seqP ?_ | refine g_sl ?_ | refine g_noPart ?_ | refine g_part ?_ | refine g_yes ?_ | refine g_thenT ?_ | refine g_consG ?_ | refine g_nilG ?_ | refine g_ii ?_ | refine g_par ?_ | refine g_par3 ?_ | refine g_vv ?_ | refine g_vvv ?_ | refine g_reprB ?_ | refine g_lcL ?_ | refine g_lcR ?_
  | ((with_reducible refine g_mod ?_ ?_); (first | omega | decide))
  | ((with_reducible refine g_div ?_ ?_ ?_); (first | omega | decide); (first | assumption | decide))
  | ((with_reducible refine g_mulL ?_ ?_ ?_); (first | omega | decide); (first | omega | decide))
  | ((with_reducible refine g_mulR ?_ ?_ ?_); (first | omega | decide); (first | omega | decide))
  | ((with_reducible refine g_pow ?_ ?_ ?_ ?_); decide; decide; (first | omega | decide))
  | dsimp only)
local macro_rules | `(tactic| walk_at "mfs") => `(tactic| repeat walk_at "mf1s")
local macro_rules | `(tactic| walk_at "mf") => `(tactic| repeat walk_at "mf1")
local macro_rules | `(tactic| walk_at "ed") => `(tactic| repeat (first
  | with_reducible first
    | exact eds_nil | apply eds_cons | exact ed_int | exact ed_bl | exact ed_non | apply ed_neg
  | ((with_reducible apply ed_str); decide)
  | ((with_reducible apply ed_var); (exact rfl); (first | assumption | exact Dq.int _))
  | ((with_reducible apply ed_dict0); assumption)
  | ((with_reducible apply ed_dict2); assumption)
  | ((with_reducible apply ed_tup); assumption)
  | ((with_reducible apply ed_lst); assumption)
  | (with_reducible apply ed_pow)
  | (with_reducible apply ed_mul)
  | assumption
  | (exact Dq.int _)
  | (exact ⟨by decide, by decide, by decide⟩)
  | (show List.length _ ≤ 1000; simp only [List.length_cons, List.length_nil]; decide)))
def topS (i : Nat) : Stmt := PySem.Challenge.pw_mapflow_k04_sums_and_mixtures.main.body.getD i (.Pass ⟨0, 0, 0, 0⟩)
abbrev s_is_integer : Stmt := topS 2
theorem sc_is_integer : FnScope ["value"] ["value"] (defScope s_is_integer) := ⟨rfl, rfl, rfl, by decide +kernel, rfl, by decide +kernel, by decide +kernel⟩
theorem pl_is_integer : Pl "is_integer" s_is_integer ["value"] := fun _ _ _ _ _ _ us hl => match us, hl with | [_], _ => rfl
abbrev s_is_within : Stmt := topS 3
theorem sc_is_within : FnScope ["value", "least", "most"] ["value", "least", "most"] (defScope s_is_within) := ⟨rfl, rfl, rfl, by decide +kernel, rfl, by decide +kernel, by decide +kernel⟩
theorem pl_is_within : Pl "is_within" s_is_within ["value", "least", "most"] := fun _ _ _ _ _ _ us hl => match us, hl with | [_, _, _], _ => rfl
abbrev s_is_list : Stmt := topS 4
theorem sc_is_list : FnScope ["value"] ["value"] (defScope s_is_list) := ⟨rfl, rfl, rfl, by decide +kernel, rfl, by decide +kernel, by decide +kernel⟩
theorem pl_is_list : Pl "is_list" s_is_list ["value"] := fun _ _ _ _ _ _ us hl => match us, hl with | [_], _ => rfl
abbrev s_is_fraction : Stmt := topS 5
theorem sc_is_fraction : FnScope ["value"] ["value"] (defScope s_is_fraction) := ⟨rfl, rfl, rfl, by decide +kernel, rfl, by decide +kernel, by decide +kernel⟩
theorem pl_is_fraction : Pl "is_fraction" s_is_fraction ["value"] := fun _ _ _ _ _ _ us hl => match us, hl with | [_], _ => rfl
abbrev s_reduced : Stmt := topS 10
theorem sc_reduced : FnScope ["up", "down", "common"] ["up", "down"] (defScope s_reduced) := ⟨rfl, rfl, rfl, by decide +kernel, rfl, by decide +kernel, by decide +kernel⟩
theorem pl_reduced : Pl "reduced" s_reduced ["up", "down"] := fun _ _ _ _ _ _ us hl => match us, hl with | [_, _], _ => rfl
abbrev s_read_fraction : Stmt := topS 11
theorem sc_read_fraction : FnScope ["value", "part", "up", "down"] ["value", "part"] (defScope s_read_fraction) := ⟨rfl, rfl, rfl, by decide +kernel, rfl, by decide +kernel, by decide +kernel⟩
theorem pl_read_fraction : Pl "read_fraction" s_read_fraction ["value", "part"] := fun _ _ _ _ _ _ us hl => match us, hl with | [_, _], _ => rfl
abbrev s_fraction_of : Stmt := topS 12
theorem sc_fraction_of : FnScope ["value"] ["value"] (defScope s_fraction_of) := ⟨rfl, rfl, rfl, by decide +kernel, rfl, by decide +kernel, by decide +kernel⟩
theorem pl_fraction_of : Pl "fraction_of" s_fraction_of ["value"] := fun _ _ _ _ _ _ us hl => match us, hl with | [_], _ => rfl
abbrev s_added : Stmt := topS 13
theorem sc_added : FnScope ["one", "other", "up", "down", "more", "below"] ["one", "other"] (defScope s_added) := ⟨rfl, rfl, rfl, by decide +kernel, rfl, by decide +kernel, by decide +kernel⟩
theorem pl_added : Pl "added" s_added ["one", "other"] := fun _ _ _ _ _ _ us hl => match us, hl with | [_, _], _ => rfl
abbrev s_taken : Stmt := topS 14
theorem sc_taken : FnScope ["one", "other", "up", "down", "less", "below"] ["one", "other"] (defScope s_taken) := ⟨rfl, rfl, rfl, by decide +kernel, rfl, by decide +kernel, by decide +kernel⟩
theorem pl_taken : Pl "taken" s_taken ["one", "other"] := fun _ _ _ _ _ _ us hl => match us, hl with | [_, _], _ => rfl
abbrev s_multiplied : Stmt := topS 15
theorem sc_multiplied : FnScope ["one", "other", "up", "down", "times", "below"] ["one", "other"] (defScope s_multiplied) := ⟨rfl, rfl, rfl, by decide +kernel, rfl, by decide +kernel, by decide +kernel⟩
theorem pl_multiplied : Pl "multiplied" s_multiplied ["one", "other"] := fun _ _ _ _ _ _ us hl => match us, hl with | [_, _], _ => rfl
abbrev s_sum_of : Stmt := topS 16
theorem sc_sum_of : FnScope ["some", "total", "number"] ["some"] (defScope s_sum_of) := ⟨rfl, rfl, rfl, by decide +kernel, rfl, by decide +kernel, by decide +kernel⟩
theorem pl_sum_of : Pl "sum_of" s_sum_of ["some"] := fun _ _ _ _ _ _ us hl => match us, hl with | [_], _ => rfl
abbrev s_mixed : Stmt := topS 17
theorem sc_mixed : FnScope ["one", "other", "share", "first", "second", "part"] ["one", "other", "share"] (defScope s_mixed) := ⟨rfl, rfl, rfl, by decide +kernel, rfl, by decide +kernel, by decide +kernel⟩
theorem pl_mixed : Pl "mixed" s_mixed ["one", "other", "share"] := fun _ _ _ _ _ _ us hl => match us, hl with | [_, _, _], _ => rfl
abbrev s_sign_of : Stmt := topS 18
theorem sc_sign_of : FnScope ["value", "up", "_"] ["value"] (defScope s_sign_of) := ⟨rfl, rfl, rfl, by decide +kernel, rfl, by decide +kernel, by decide +kernel⟩
theorem pl_sign_of : Pl "sign_of" s_sign_of ["value"] := fun _ _ _ _ _ _ us hl => match us, hl with | [_], _ => rfl
abbrev s__law_quay : Stmt := topS 20
theorem sc__law_quay : FnScope ["script", "cell"] ["script"] (defScope s__law_quay) := ⟨rfl, rfl, rfl, by decide +kernel, rfl, by decide +kernel, by decide +kernel⟩
theorem pl__law_quay : Pl "_law_quay" s__law_quay ["script"] := fun _ _ _ _ _ _ us hl => match us, hl with | [_], _ => rfl
abbrev s__law_moor : Stmt := topS 21
theorem sc__law_moor : FnScope ["quay", "many", "rest", "turn", "cell", "stirred"] ["quay", "many"] (defScope s__law_moor) := ⟨rfl, rfl, rfl, by decide +kernel, rfl, by decide +kernel, by decide +kernel⟩
theorem pl__law_moor : Pl "_law_moor" s__law_moor ["quay", "many"] := fun _ _ _ _ _ _ us hl => match us, hl with | [_, _], _ => rfl
abbrev s__law_pick : Stmt := topS 22
theorem sc__law_pick : FnScope ["quay", "some"] ["quay", "some"] (defScope s__law_pick) := ⟨rfl, rfl, rfl, by decide +kernel, rfl, by decide +kernel, by decide +kernel⟩
theorem pl__law_pick : Pl "_law_pick" s__law_pick ["quay", "some"] := fun _ _ _ _ _ _ us hl => match us, hl with | [_, _], _ => rfl
abbrev s__law_fraction : Stmt := topS 23
theorem sc__law_fraction : FnScope ["quay", "most", "up", "down", "by"] ["quay", "most"] (defScope s__law_fraction) := ⟨rfl, rfl, rfl, by decide +kernel, rfl, by decide +kernel, by decide +kernel⟩
theorem pl__law_fraction : Pl "_law_fraction" s__law_fraction ["quay", "most"] := fun _ _ _ _ _ _ us hl => match us, hl with | [_, _], _ => rfl
abbrev s__law_pair : Stmt := topS 24
theorem sc__law_pair : FnScope ["value"] ["value"] (defScope s__law_pair) := ⟨rfl, rfl, rfl, by decide +kernel, rfl, by decide +kernel, by decide +kernel⟩
theorem pl__law_pair : Pl "_law_pair" s__law_pair ["value"] := fun _ _ _ _ _ _ us hl => match us, hl with | [_], _ => rfl
abbrev s__law_is : Stmt := topS 25
theorem sc__law_is : FnScope ["told", "up", "down", "one", "other"] ["told", "up", "down"] (defScope s__law_is) := ⟨rfl, rfl, rfl, by decide +kernel, rfl, by decide +kernel, by decide +kernel⟩
theorem pl__law_is : Pl "_law_is" s__law_is ["told", "up", "down"] := fun _ _ _ _ _ _ us hl => match us, hl with | [_, _, _], _ => rfl
abbrev s_law : Stmt := topS 26
theorem sc_law : FnScope ["script", "quay", "turn", "most", "some", "up", "down", "value", "a", "b", "one", "other", "share", "c", "d", "e", "f", "told", "each"] ["script"] (defScope s_law) := ⟨rfl, rfl, rfl, by decide +kernel, rfl, by decide +kernel, by decide +kernel⟩
theorem pl_law : Pl "law" s_law ["script"] := fun _ _ _ _ _ _ us hl => match us, hl with | [_], _ => rfl
theorem pk_sign_of : Pk "sign_of" s_sign_of ["value"] ["value"] List.reverse := fun _ _ _ _ _ _ us hl => match us, hl with | [_], _ => rfl
theorem pk_mixed : Pk "mixed" s_mixed ["one", "other", "share"] ["share", "other", "one"] List.reverse := fun _ _ _ _ _ _ us hl => match us, hl with | [_, _, _], _ => rfl
theorem pk_sum_of : Pk "sum_of" s_sum_of ["some"] ["some"] List.reverse := fun _ _ _ _ _ _ us hl => match us, hl with | [_], _ => rfl
structure Tx (c : Cn) : Prop where
  n_abs : c.mg "abs" = none
  n_all : c.mg "all" = none
  n_bool : c.mg "bool" = none
  n_int : c.mg "int" = none
  n_isinstance : c.mg "isinstance" = none
  n_len : c.mg "len" = none
  n_list : c.mg "list" = none
  n_range : c.mg "range" = none
  n_repr : c.mg "repr" = none
  n_tuple : c.mg "tuple" = none
  d_is_integer : De c "is_integer" s_is_integer
  d_is_within : De c "is_within" s_is_within
  d_is_list : De c "is_list" s_is_list
  d_is_fraction : De c "is_fraction" s_is_fraction
  d_reduced : De c "reduced" s_reduced
  d_read_fraction : De c "read_fraction" s_read_fraction
  d_fraction_of : De c "fraction_of" s_fraction_of
  d_added : De c "added" s_added
  d_taken : De c "taken" s_taken
  d_multiplied : De c "multiplied" s_multiplied
  d_sum_of : De c "sum_of" s_sum_of
  d_mixed : De c "mixed" s_mixed
  d_sign_of : De c "sign_of" s_sign_of
  d__law_quay : De c "_law_quay" s__law_quay
  d__law_moor : De c "_law_moor" s__law_moor
  d__law_pick : De c "_law_pick" s__law_pick
  d__law_fraction : De c "_law_fraction" s__law_fraction
  d__law_pair : De c "_law_pair" s__law_pair
  d__law_is : De c "_law_is" s__law_is
  d_law : De c "law" s_law
  m_gcd : c.mg "gcd" = some (.builtin "math.gcd")

def sp_iswth (K : PySem.W.Frag) : Sp := fun vs H Q _ => ∃ q v d l m, vs = [v, bdV l, bdV m] ∧ Dq q K H v d ∧ Q (.bl (wthD d l m)) H
def sp_islist (K : PySem.W.Frag) : Sp := fun vs H Q _ => ∃ q v d, vs = [v] ∧ Dq q K H v d ∧ Q (.bl (isSeqD d)) H
def sp_isfr (K : PySem.W.Frag) : Sp := fun vs H Q _ => ∃ q v d, vs = [v] ∧ Dq q K H v d ∧ Q (.bl (isFrD d)) H
def sp_ispl (K : PySem.W.Frag) : Sp := fun vs H Q _ => ∃ q v d, vs = [v] ∧ Dq q K H v d ∧ Q (.bl (isPlD d)) H
def sp_isint (K : PySem.W.Frag) : Sp := fun vs H Q _ => ∃ q v d, vs = [v] ∧ Dq q K H v d ∧ Q (.bl (isIntD d)) H
theorem ok_is_integer (c : Cn) (T : Tx c) : Cl c 1 "is_integer" s_is_integer ["value"] (sp_isint c.K) := by
  obtain ⟨P, w, K, mg, base⟩ := c
  refine De.cl (N := ["value"]) T.d_is_integer sc_is_integer (fun vs H Q E h => ?_) (fun f0 cdv A outer s H vs Q E hA hr h => ?_)
  · obtain ⟨q, v, d, rfl, _⟩ := h; rfl
  · have S := sc_is_integer
    obtain ⟨q, v, d, rfl, hd, k⟩ := h
    refine ⟨_, (pss_one (ps_ret (pe_and (pe_callB call_isi (by rfl) T.n_isinstance (show bootBuiltins "isinstance" = some (.builtin "isinstance") by decide +kernel) (pa_cons (pv 0) (pa_cons (pe_bltn (v := .ty "int") (by rfl) T.n_int (show bootBuiltins "int" = some (.type "int") by decide +kernel) rfl) pa_nil))) (pe_one (pe_not (pe_callB call_isi (by rfl) T.n_isinstance (show bootBuiltins "isinstance" = some (.builtin "isinstance") by decide +kernel) (pa_cons (pv 0) (pa_cons (pe_bltn (v := .ty "bool") (by rfl) T.n_bool (show bootBuiltins "bool" = some (.type "bool") by decide +kernel) rfl) pa_nil)))))))), ?_⟩
    walk_at "mf"
    refine g_isiI hd ?_
    walk_at "mf"
    refine g_ite (fun h => ?_) (fun h => ?_)
    · walk_at "mf"
      refine g_isiB hd ?_
      walk_at "mf"
      rw [show isIntD d = !isBoolD d by cases d <;> first | rfl | cases h] at k
      exact k
    · rw [show isIntD d = false by cases d <;> first | rfl | cases h] at k
      exact k
theorem ok_is_within (c : Cn) (T : Tx c) : Cl c 2 "is_within" s_is_within ["value", "least", "most"] (sp_iswth c.K) := by
  obtain ⟨P, w, K, mg, base⟩ := c
  have C_is_integer := ok_is_integer _ T
  refine De.cl (N := ["value", "least", "most"]) T.d_is_within sc_is_within (fun vs H Q E h => ?_) (fun f0 cdv A outer s H vs Q E hA hr h => ?_)
  · obtain ⟨q, v, d, l, m, rfl, _⟩ := h; rfl
  · have S := sc_is_within
    obtain ⟨q, v, d, l, m, rfl, hd, k⟩ := h
    refine ⟨_, (pss_cons (ps_if (pt_not (pt_val (pe_f C_is_integer hA hr (by decide) pl_is_integer (by rfl) (pa_cons (pv 0) pa_nil)))) (pss_one (ps_ret pe_bl)) pss_nil)
      (pss_one (ps_ret (pe_and (pe_or (pe_cmpR op_isNU (pv 1) pe_non (nomark _)) (pe_one (pe_cmpR op_ge (pv 0) (pv 1) (nomark _)))) (pe_one (pe_or (pe_cmpR op_isNU (pv 2) pe_non (nomark _)) (pe_one (pe_cmpR op_le (pv 0) (pv 2) (nomark _))))))))), ?_⟩
    walk_at "mf"
    refine ⟨q, v, d, rfl, hd, ?_⟩
    walk_at "mf"
    refine g_ite (fun h => ?_) (fun h => ?_)
    · have e : isIntD d = false := by simpa using h
      walk_at "mf"
      rw [show wthD d l m = false by unfold wthD; rw [e]; rfl] at k
      exact k
    · have e : isIntD d = true := by simpa using h
      obtain ⟨rfl, hv⟩ := hd.int_of e
      rw [show wthD d l m = (loB l (valD d) && hiB m (valD d)) by unfold wthD; rw [e]; rfl] at k
      cases l with
      | none => cases m with
        | none =>
          dsimp only [bdV]
          walk_at "mf"
          exact k
        | some m =>
          dsimp only [bdV]
          walk_at "mf"
          exact k
      | some l => cases m with
        | none =>
          dsimp only [bdV]
          walk_at "mf"
          refine g_ite (fun h1 => ?_) (fun h1 => ?_)
          · walk_at "mf"
            rw [show loB (some l) (valD d) = true from h1] at k
            exact k
          · rw [show loB (some l) (valD d) = false from h1] at k
            exact k
        | some m =>
          dsimp only [bdV]
          walk_at "mf"
          refine g_ite (fun h1 => ?_) (fun h1 => ?_)
          · walk_at "mf"
            rw [show loB (some l) (valD d) = true from h1] at k
            exact k
          · rw [show loB (some l) (valD d) = false from h1] at k
            exact k
theorem ok_is_list (c : Cn) (T : Tx c) : Cl c 1 "is_list" s_is_list ["value"] (sp_islist c.K) := by
  obtain ⟨P, w, K, mg, base⟩ := c
  refine De.cl (N := ["value"]) T.d_is_list sc_is_list (fun vs H Q E h => ?_) (fun f0 cdv A outer s H vs Q E hA hr h => ?_)
  · obtain ⟨q, v, d, rfl, _⟩ := h; rfl
  · have S := sc_is_list
    obtain ⟨q, v, d, rfl, hd, k⟩ := h
    refine ⟨_, (pss_one (ps_ret (pe_isSeq (by rfl) T.n_isinstance (by rfl) T.n_list (by rfl) T.n_tuple (pv 0)))), ?_⟩
    walk_at "mf"
    exact g_seqQ hd k
theorem ok_is_fraction (c : Cn) (T : Tx c) : Cl c 3 "is_fraction" s_is_fraction ["value"] (sp_isfr c.K) := by
  obtain ⟨P, w, K, mg, base⟩ := c
  have C_is_integer := ok_is_integer _ T
  have C_is_list := ok_is_list _ T
  have C_is_within := ok_is_within _ T
  refine De.cl (N := ["value"]) T.d_is_fraction sc_is_fraction (fun vs H Q E h => ?_) (fun f0 cdv A outer s H vs Q E hA hr h => ?_)
  · obtain ⟨q, v, d, rfl, _⟩ := h; rfl
  · have S := sc_is_fraction
    obtain ⟨q, v, d, rfl, hd, k⟩ := h
    refine ⟨_, (pss_cons (ps_if (pt_val (pe_f C_is_integer hA hr (by decide) pl_is_integer (by rfl) (pa_cons (pv 0) pa_nil))) (pss_one (ps_ret pe_bl)) pss_nil)
      (pss_cons (ps_if (PW.pt (pw_or (pt_not (pt_val (pe_f C_is_list hA hr (by decide) pl_is_list (by rfl) (pa_cons (pv 0) pa_nil)))) (pw_or1 (pt_cmpR (op_neU hr.units) (pe_callB call_lenU (by rfl) T.n_len PySem.boot_len (pa_cons (pv 0) pa_nil)) pe_int (nomark _))))) (pss_one (ps_ret pe_bl)) pss_nil)
      (pss_one (ps_ret (pe_and (pe_f C_is_integer hA hr (by decide) pl_is_integer (by rfl) (pa_cons (pe_ix ix_seq (pv 0) pe_int (fun _ _ => rfl)) pa_nil)) (pe_one (pe_f C_is_within hA hr (by decide) pl_is_within (by rfl) (pa_cons (pe_ix ix_seq (pv 0) pe_int (fun _ _ => rfl)) (pa_cons pe_int (pa_cons pe_non pa_nil)))))))))), ?_⟩
    walk_at "mf"
    refine ⟨q, v, d, rfl, hd, ?_⟩
    walk_at "mf"
    refine g_ite (fun h1 => ?_) (fun h1 => ?_)
    · walk_at "mf"
      rw [frD_int h1] at k
      exact k
    · walk_at "mf"
      refine ⟨q, v, d, rfl, hd, ?_⟩
      walk_at "mf"
      refine g_ite (fun h2 => ?_) (fun h2 => ?_)
      · walk_at "mf"
        rw [frD_no h1 (by simpa using h2)] at k
        exact k
      · obtain ⟨a, xs, ds, rfl, na, hs, hall, ed⟩ := hd.seq (by simpa using h2)
        walk_at "mf"
        refine g_len hs ?_
        walk_at "mf"
        refine g_ite (fun h3 => ?_) (fun h3 => ?_)
        · walk_at "mf"
          rw [(frD_two ed (by rw [← hall.len]; simp at h3; omega)).1] at k
          exact k
        · obtain ⟨x, y, dx, dy, rfl, rfl, hx, hy⟩ := two_of hall (by simp at h3; omega)
          rw [(frD_of ed).1] at k
          walk_at "mf"
          refine g_ix hs rfl ?_
          walk_at "mf"
          refine ⟨q, x, dx, rfl, hx, ?_⟩
          walk_at "mf"
          refine g_ite (fun h4 => ?_) (fun h4 => ?_)
          · walk_at "mf"
            refine g_ix hs rfl ?_
            walk_at "mf"
            refine ⟨q, y, dy, some 1, none, rfl, hy, ?_⟩
            rw [h4, Bool.true_and, posD_eq] at k
            exact k
          · rw [h4] at k
            exact k
end Mf
namespace Mf
open PySem PySem.Spec PyProof.Rows L2
local macro_rules | `(tactic| walk_at "mf1") => `(tactic| first
  | ((with_reducible apply g_var); exact rfl)
  | with_reducible first
    | refine g_c ?_ | refine g_op ?_ | refine g_un ?_ | refine g_cb ?_ | refine g_cl ?_ | refine g_clk ?_ | refine g_nil ?_ | refine g_cons ?_
    | refine g_tB ?_ | refine g_test ?_ | refine g_bl ?_ | refine g_and ?_ | refine g_or ?_ | refine g_not ?_ | refine g_andV ?_ | refine g_orV ?_ | refine g_notV ?_
    | refine g_if ?_ | refine g_ifS ?_ | refine g_seq ?_ | refine g_next ?_ | refine g_ret ?_ | refine g_drop ?_ | refine g_asg ?_ | refine g_name ?_ | refine g_sub ?_
    | refine g_int ?_ | refine g_intB ?_ | refine g_abs ?_ | refine g_I0 ?_ | refine g_addI ?_ | refine g_U ?_ | refine g_isNn ?_ | refine g_isNi ?_ | refine g_notN ?_ | refine g_notT1 ?_ | refine g_notT2 ?_ | refine g_notT3 ?_ | refine g_notT4 ?_ | refine g_notTb ?_ | refine g_notTi ?_ | refine g_eqI ?_ | refine g_neI ?_ | refine g_neSs ?_ | refine g_neS ?_ | refine g_eqS ?_
    | refine g_iteT ?_ | refine g_iteF ?_ | refine g_iteNT ?_ | refine g_iteNF ?_ | refine g_lst ?_ | refine g_tup ?_ | refine g_seqP ?_ | refine g_sl ?_ | refine g_noPart ?_ | refine g_part ?_ | refine g_yes ?_ | refine g_thenT ?_ | refine g_consG ?_ | refine g_nilG ?_ | refine g_ii ?_ | refine g_par ?_ | refine g_par3 ?_ | refine g_vv ?_ | refine g_vvv ?_ | refine g_reprB ?_ | refine g_lcL ?_ | refine g_lcR ?_
  | ((with_reducible refine g_mod ?_ ?_); (first | omega | decide))
  | ((with_reducible refine g_div ?_ ?_ ?_); (first | omega | decide); (first | assumption | decide))
  | ((with_reducible refine g_mulL ?_ ?_ ?_); (first | omega | decide); (first | omega | decide))
  | ((with_reducible refine g_mulR ?_ ?_ ?_); (first | omega | decide); (first | omega | decide))
  | ((with_reducible refine g_pow ?_ ?_ ?_ ?_); decide; decide; (first | omega | decide))
  | dsimp only)
local macro_rules | `(tactic| walk_at "mf1s") => `(tactic| first
  | ((with_reducible apply g_var); exact rfl)
  | with_reducible first
    | refine g_c ?_ | refine g_op ?_ | refine g_un ?_ | refine g_cb ?_ | refine g_cl ?_ | refine g_clk ?_ | refine g_nil ?_ | refine g_cons ?_
    | refine g_tB ?_ | refine g_test ?_ | refine g_bl ?_ | refine g_and ?_ | refine g_or ?_ | refine g_not ?_ | refine g_andV ?_ | refine g_orV ?_ | refine g_notV ?_
    | refine g_if ?_ | refine g_ifS ?_ | refine g_next ?_ | refine g_ret ?_ | refine g_drop ?_ | refine g_asg ?_ | refine g_name ?_ | refine g_sub ?_
    | refine g_int ?_ | refine g_intB ?_ | refine g_abs ?_ | refine g_I0 ?_ | refine g_addI ?_ | refine g_U ?_ | refine g_isNn ?_ | refine g_isNi ?_ | refine g_notN ?_ | refine g_notT1 ?_ | refine g_notT2 ?_ | refine g_notT3 ?_ | refine g_notT4 ?_ | refine g_notTb ?_ | refine g_notTi ?_ | refine g_eqI ?_ | refine g_neI ?_ | refine g_neSs ?_ | refine g_neS ?_ | refine g_eqS ?_
    | refine g_iteT ?_ | refine g_iteF ?_ | refine g_iteNT ?_ | refine g_iteNF ?_ | refine g_lst ?_ | refine g_tup ?_ | refine g_seqP ?_ | refine g_sl ?_ | refine g_noPart ?_ | refine g_part ?_ | refine g_yes ?_ | refine g_thenT ?_ | refine g_consG ?_ | refine g_nilG ?_ | refine g_ii ?_ | refine g_par ?_ | refine g_par3 ?_ | refine g_vv ?_ | refine g_vvv ?_ | refine g_reprB ?_ | refine g_lcL ?_ | refine g_lcR ?_
  | ((with_reducible refine g_mod ?_ ?_); (first | omega | decide))
  | ((with_reducible refine g_div ?_ ?_ ?_); (first | omega | decide); (first | assumption | decide))
  | ((with_reducible refine g_mulL ?_ ?_ ?_); (first | omega | decide); (first | omega | decide))
  | ((with_reducible refine g_mulR ?_ ?_ ?_); (first | omega | decide); (first | omega | decide))
  | ((with_reducible refine g_pow ?_ ?_ ?_ ?_); decide; decide; (first | omega | decide))
  | dsimp only)
local macro_rules | `(tactic| walk_at "mfs") => `(tactic| repeat walk_at "mf1s")
local macro_rules | `(tactic| walk_at "mf") => `(tactic| repeat walk_at "mf1")
local macro_rules | `(tactic| walk_at "ed") => `(tactic| repeat (first
  | with_reducible first
    | exact eds_nil | apply eds_cons | exact ed_int | exact ed_bl | exact ed_non | apply ed_neg
  | ((with_reducible apply ed_str); decide)
  | ((with_reducible apply ed_var); (exact rfl); (first | assumption | exact Dq.int _))
  | ((with_reducible apply ed_dict0); assumption)
  | ((with_reducible apply ed_dict2); assumption)
  | ((with_reducible apply ed_tup); assumption)
  | ((with_reducible apply ed_lst); assumption)
  | (with_reducible apply ed_pow)
  | (with_reducible apply ed_mul)
  | assumption
  | (exact Dq.int _)
  | (exact ⟨by decide, by decide, by decide⟩)
  | (show List.length _ ≤ 1000; simp only [List.length_cons, List.length_nil]; decide)))
theorem ok__law_quay (c : Cn) (T : Tx c) : Cl c 1 "_law_quay" s__law_quay ["script"] (sp_quay c.K) := by
  obtain ⟨P, w, K, mg, base⟩ := c
  refine De.cl (N := ["script", "cell"]) T.d__law_quay sc__law_quay (fun vs H Q E h => ?_) (fun f0 cdv A outer s H vs Q E hA hr h => ?_)
  · obtain ⟨a, ns, rfl, _⟩ := h; rfl
  · have S := sc__law_quay
    obtain ⟨a, ns, rfl, hS, hlen, k⟩ := h
    refine ⟨_, (pss_one (ps_ret (pe_lst (pa_cons (pe_lc (own := [("cell", 1)]) (g := gName 1) (tt := tYes) rfl S.nd (pi_list (pe_slice sl_list (pv 0) po_none (po_some pe_int))) (blkOk_by (N := ["script", "cell"]) (sc := defScope s__law_quay) (by decide +kernel)) (fun _ _ _ _ _ => pg_name (i := 1) S.nd rfl (Or.inl rfl)) (fun _ _ _ _ _ => pts_nil) (fun _ _ _ _ _ => (pe_callTy call_intU (by rfl) T.n_int PyProof.Rows.boot_int (pa_cons (pv 1) pa_nil)))) (pa_cons pe_int (pa_cons pe_int pa_nil)))))), ?_⟩
    walk_at "mf"
    refine g_slL hS fun p H1 hp s1 e1 => ?_
    obtain ⟨ms, em, lm⟩ := cut_ints ns none (some 58)
    walk_at "mf"
    rw [em] at e1
    refine ⟨p, rfl, ⟨_, seqU e1⟩, ?_⟩
    refine lcgo_list (xs := ms.map V.int) (fun D i H' => Same H1 H' ∧ H' D = some (.lst ((ms.take i).map V.int))) (fun x => rfl) (fun D hD => ⟨same_new hD, upd_same⟩) (fun D i H' _ h => seqU (h.1 _ _ e1)) (fun D i x H' hD ex h => ?_) (fun D H' hD h => ?_)
    · obtain ⟨h1, h2⟩ := h
      rw [List.getElem?_map] at ex
      obtain ⟨z, ez, rfl⟩ := Option.map_eq_some_iff.mp ex
      walk_at "mf"
      have hi := (List.getElem?_eq_some_iff.mp ez).1
      refine ⟨_, h2, ?_, ?_, ?_⟩
      · rw [List.length_map, List.length_take]
        exact small1000 (by omega)
      · intro b o e
        rw [upd_ne (ne_of_none e hD)]
        exact h1 b o e
      · rw [upd_same, List.take_add_one, ez, List.map_append]
        rfl
    · obtain ⟨h1, h2⟩ := h
      rw [List.length_map, List.take_length] at h2
      walk_at "mf"
      refine g_newL (by show 3 ≤ sizeLine; decide) fun q H2 hq s2 e2 => ?_
      have hDq : D ≠ q := ne_of_none h2 hq
      refine k q H2 ((s1.trans h1).trans s2) ((s1.trans h1).free hq) ⟨D, ms, 0, e2, s2 _ _ h2, hDq, by omega, by omega, by omega⟩
theorem ok__law_moor (c : Cn) (T : Tx c) : Cl c 1 "_law_moor" s__law_moor ["quay", "many"] (sp_moor c.K) := by
  obtain ⟨P, w, K, mg, base⟩ := c
  refine De.cl (N := ["quay", "many", "rest", "turn", "cell", "stirred"]) T.d__law_moor sc__law_moor (fun vs H Q E h => ?_) (fun f0 cdv A outer s H vs Q E hA hr h => ?_)
  · obtain ⟨q, t, n, rfl, _⟩ := h; rfl
  · have S := sc__law_moor
    obtain ⟨q, t, n, rfl, hq, ht, hn, hn9, k⟩ := h
    refine ⟨_, (pss_cons (ps_if (pt_cmpR op_gt (pe_ix ix_seq (pv 0) pe_int (fun _ _ => rfl)) pe_int (nomark _)) (pss_cons (ps_set (i := 2) S.nd rfl (by first | exact .inl rfl | exact .inr rfl) (pe_callTy call_intU (by rfl) T.n_int PyProof.Rows.boot_int (pa_cons (pe_ix ix_seq (pv 0) pe_int (fun _ _ => rfl)) pa_nil)))
      (pss_cons (ps_asg (pe_op op_fdivW (pv 2) (pv 1)) (pg_sub (pv 0) pe_int set_list))
      (pss_one (ps_ret (pe_op op_mod (pe_callTy call_intU (by rfl) T.n_int PyProof.Rows.boot_int (pa_cons (pv 2) pa_nil)) (pv 1)))))) pss_nil)
      (pss_cons (ps_set (i := 3) S.nd rfl (by first | exact .inl rfl | exact .inr rfl) (pe_ix ix_seq (pv 0) pe_int (fun _ _ => rfl)))
      (pss_cons (ps_asg (pe_op op_addU (pv 3) pe_int) (pg_sub (pv 0) pe_int set_list))
      (pss_cons (ps_set (i := 4) S.nd rfl (by first | exact .inl rfl | exact .inr rfl) (pe_op op_addU (pe_op op_mulU pe_int (pv 3)) pe_int))
      (pss_cons (ps_if (pt_cmpR (op_neU hr.units) (pe_ix ix_seq (pv 0) pe_int (fun _ _ => rfl)) (pe_lst pa_nil) (nomark _)) (pss_one (ps_set (i := 4) S.nd rfl (by first | exact .inl rfl | exact .inr rfl) (pe_ix ix_seq (pe_ix ix_seq (pv 0) pe_int (fun _ _ => rfl)) (pe_op op_mod (pe_callTy call_intU (by rfl) T.n_int PyProof.Rows.boot_int (pa_cons (pv 3) pa_nil)) (pe_callB call_lenU (by rfl) T.n_len PySem.boot_len (pa_cons (pe_ix ix_seq (pv 0) pe_int (fun _ _ => rfl)) pa_nil))) (fun _ _ => rfl)))) pss_nil)
      (pss_cons (ps_if (PW.pt (pw_and (pt_cmpR op_lt (pv 3) (pe_callB call_lenU (by rfl) T.n_len PySem.boot_len (pa_cons (pe_ix ix_seq (pv 0) pe_int (fun _ _ => rfl)) pa_nil)) (nomark _)) (pw_and1 (pt_cmpR op_ge (pe_callB call_absU (by rfl) T.n_abs (show bootBuiltins "abs" = some (.builtin "abs") by decide +kernel) (pa_cons (pv 4) pa_nil)) (pe_op op_pow pe_int pe_int) (nomark _))))) (pss_cons (ps_set (i := 2) S.nd rfl (by first | exact .inl rfl | exact .inr rfl) (pe_op op_addU (pe_op op_mulU pe_int (pe_op op_sub (pe_callB call_absU (by rfl) T.n_abs (show bootBuiltins "abs" = some (.builtin "abs") by decide +kernel) (pa_cons (pv 4) pa_nil)) (pe_op op_pow pe_int pe_int))) (pe_callTy call_intU (by rfl) T.n_int PyProof.Rows.boot_int (pa_cons (pe_cmpR op_lt (pv 4) pe_int (nomark _)) pa_nil))))
      (pss_cons (ps_asg (pe_op op_fdivW (pv 2) (pv 1)) (pg_sub (pv 0) pe_int set_list))
      (pss_one (ps_ret (pe_op op_mod (pe_callTy call_intU (by rfl) T.n_int PyProof.Rows.boot_int (pa_cons (pv 2) pa_nil)) (pv 1)))))) pss_nil)
      (pss_cons (ps_set (i := 5) S.nd rfl (by first | exact .inl rfl | exact .inr rfl) (pe_op op_mod (pe_callTy call_intU (by rfl) T.n_int PyProof.Rows.boot_int (pa_cons (pe_op op_pow (pe_op op_addU (pe_op op_addU (pe_op op_mod (pe_callTy call_intU (by rfl) T.n_int PyProof.Rows.boot_int (pa_cons (pv 4) pa_nil)) pe_int) (pe_op op_mulU pe_int (pv 3))) pe_int) pe_int) pa_nil)) pe_int))
      (pss_cons (ps_set (i := 5) S.nd rfl (by first | exact .inl rfl | exact .inr rfl) (pe_op op_mod (pe_callTy call_intU (by rfl) T.n_int PyProof.Rows.boot_int (pa_cons (pe_op op_pow (pe_op op_addU (pe_op op_addU (pe_op op_mulU (pv 5) (pe_op op_addU (pe_op op_mulU pe_int (pv 3)) pe_int)) (pe_op op_mulU (pe_op op_mulU pe_int (pv 3)) (pv 3))) pe_int) pe_int) pa_nil)) pe_int))
      (pss_one (ps_ret (pe_op op_mod (pe_callTy call_intU (by rfl) T.n_int PyProof.Rows.boot_int (pa_cons (pe_op op_fdivW (pv 5) pe_int) pa_nil)) (pv 1)))))))))))), ?_⟩
    obtain ⟨c, ns, r, eq, hc, ncq, hns, hr0, ht0⟩ := hq
    walk_at "mf"
    refine g_ix (.inl (seqU eq)) (v := .int r) rfl ?_
    walk_at "mf"
    refine g_ite (fun h => ?_) (fun h => ?_)
    · walk_at "mf"
      refine g_ix (.inl (seqU eq)) (v := .int r) rfl ?_
      walk_at "mf"
      refine g_setL eq (j := 2) rfl ?_
      walk_at "mf"
      exact k t _ _ (upd_x eq) ⟨c, ns, _, upd_same, (upd_x eq).kept _ _ ncq hc, ncq, hns, Int.ediv_nonneg hr0 (by omega), ht0⟩ (by omega) (by omega) (Int.emod_nonneg _ (by omega)) (Int.emod_lt_of_pos _ hn)
    · walk_at "mf"
      refine g_ix (.inl (seqU eq)) (v := .int t) rfl ?_
      walk_at "mf"
      refine g_setL eq (j := 1) rfl ?_
      have eq1 : (upd H q (.lst [.ref c, .int (t + 1), .int r])) q = some (.lst [.ref c, .int (t + 1), .int r]) := upd_same
      have hc1 : (upd H q (.lst [.ref c, .int (t + 1), .int r])) c = some (.lst (ns.map V.int)) := (upd_x eq).kept _ _ ncq hc
      have sx1 : SameX q H (upd H q (.lst [.ref c, .int (t + 1), .int r])) := upd_x eq
      have es : [V.ref c, .int t, .int r].set 1 (.int (t + 1)) = [.ref c, .int (t + 1), .int r] := rfl
      rw [es]
      generalize upd H q (.lst [.ref c, .int (t + 1), .int r]) = Hb at *
      walk_at "mf"
      refine g_ix (.inl (seqU eq1)) (v := .ref c) rfl ?_
      walk_at "mf"
      refine g_newL (by show 0 ≤ sizeLine; decide) fun p H2 hp s2 e2 => ?_
      have eq2 := s2 _ _ eq1
      have hc2 := s2 _ _ hc1
      have sx := sx1.trans (Same.x s2)
      walk_at "mf"
      refine g_neNil (seqU hc2) (seqU e2) ?_
      walk_at "mf"
      refine g_ite (fun h2 => ?_) (fun h2 => ?_)
      · walk_at "mf"
        refine g_ix (.inl (seqU eq2)) (v := .ref c) rfl ?_
        walk_at "mf"
        refine g_ix (.inl (seqU eq2)) (v := .ref c) rfl ?_
        walk_at "mf"
        refine g_len (.inl (seqU hc2)) ?_
        have hpos : 0 < ((ns.map V.int).length : Int) := by
          cases ns with
          | nil => cases h2
          | cons z l => rw [List.map_cons, List.length_cons]; omega
        walk_at "mf"
        obtain ⟨z, ez⟩ : ∃ z, atI (ns.map V.int) (t % ((ns.map V.int).length : Int)) = some (.int z) := by
          have b1 := Int.emod_nonneg t (Int.ne_of_gt hpos)
          have b2 := Int.emod_lt_of_pos t hpos
          have b3 : (t % ((ns.map V.int).length : Int)).toNat < ns.length := by
            rw [List.length_map] at b1 b2 ⊢
            omega
          refine ⟨ns[(t % ((ns.map V.int).length : Int)).toNat], ?_⟩
          refine at_of (j := (t % ((ns.map V.int).length : Int)).toNat) (by omega) ?_
          rw [List.getElem?_map, List.getElem?_eq_getElem b3]
          rfl
        refine g_ix (.inl (seqU hc2)) ez ?_
        walk_at "mf"
        refine g_ix (.inl (seqU eq2)) (v := .ref c) rfl ?_
        walk_at "mf"
        refine g_len (.inl (seqU hc2)) ?_
        walk_at "mf"
        refine g_ite (fun h3 => ?_) (fun h3 => ?_)
        · walk_at "mf"
          refine g_ite (fun h4 => ?_) (fun h4 => ?_)
          · have h5 := of_decide_eq_true h4
            rw [show (10 : Int) ^ (18 : Int).toNat = 1000000000000000000 by decide] at h5
            walk_at "mf"
            refine g_setL eq2 (j := 2) rfl ?_
            walk_at "mf"
            rw [show (10 : Int) ^ (18 : Int).toNat = 1000000000000000000 by decide]
            exact k (t + 1) _ _ (sx.trans (upd_x eq2)) ⟨c, ns, _, upd_same, (upd_x eq2).kept _ _ ncq hc2, ncq, hns, Int.ediv_nonneg (by split <;> omega) (by omega), by omega⟩ (by omega) (by omega) (Int.emod_nonneg _ (by omega)) (Int.emod_lt_of_pos _ hn)
          · walk_at "mf"
            walk_at "mf"
            refine g_pow (by decide) (by decide) (stir_bd (Int.emod_nonneg _ (by decide)) (Int.lt_of_lt_of_le (Int.emod_lt_of_pos _ (by decide)) (by decide)) ht0 ht (by decide) (by decide) (by decide) (by decide) (by decide) (by decide)) ?_
            walk_at "mf"
            exact k (t + 1) _ _ sx ⟨c, ns, r, eq2, hc2, ncq, hns, hr0, by omega⟩ (by omega) (by omega) (Int.emod_nonneg _ (by omega)) (Int.emod_lt_of_pos _ hn)
        · walk_at "mf"
          walk_at "mf"
          refine g_pow (by decide) (by decide) (stir_bd (Int.emod_nonneg _ (by decide)) (Int.lt_of_lt_of_le (Int.emod_lt_of_pos _ (by decide)) (by decide)) ht0 ht (by decide) (by decide) (by decide) (by decide) (by decide) (by decide)) ?_
          walk_at "mf"
          exact k (t + 1) _ _ sx ⟨c, ns, r, eq2, hc2, ncq, hns, hr0, by omega⟩ (by omega) (by omega) (Int.emod_nonneg _ (by omega)) (Int.emod_lt_of_pos _ hn)
      · walk_at "mf"
        walk_at "mf"
        refine g_ix (.inl (seqU eq2)) (v := .ref c) rfl ?_
        walk_at "mf"
        refine g_len (.inl (seqU hc2)) ?_
        walk_at "mf"
        refine g_ite (fun h3 => ?_) (fun h3 => ?_)
        · walk_at "mf"
          refine g_ite (fun h4 => ?_) (fun h4 => ?_)
          · have h5 := of_decide_eq_true h4
            rw [show (10 : Int) ^ (18 : Int).toNat = 1000000000000000000 by decide] at h5
            walk_at "mf"
            refine g_setL eq2 (j := 2) rfl ?_
            walk_at "mf"
            rw [show (10 : Int) ^ (18 : Int).toNat = 1000000000000000000 by decide]
            exact k (t + 1) _ _ (sx.trans (upd_x eq2)) ⟨c, ns, _, upd_same, (upd_x eq2).kept _ _ ncq hc2, ncq, hns, Int.ediv_nonneg (by split <;> omega) (by omega), by omega⟩ (by omega) (by omega) (Int.emod_nonneg _ (by omega)) (Int.emod_lt_of_pos _ hn)
          · walk_at "mf"
            walk_at "mf"
            refine g_pow (by decide) (by decide) (stir_bd (Int.emod_nonneg _ (by decide)) (Int.lt_of_lt_of_le (Int.emod_lt_of_pos _ (by decide)) (by decide)) ht0 ht (by decide) (by decide) (by decide) (by decide) (by decide) (by decide)) ?_
            walk_at "mf"
            exact k (t + 1) _ _ sx ⟨c, ns, r, eq2, hc2, ncq, hns, hr0, by omega⟩ (by omega) (by omega) (Int.emod_nonneg _ (by omega)) (Int.emod_lt_of_pos _ hn)
        · walk_at "mf"
          walk_at "mf"
          refine g_pow (by decide) (by decide) (stir_bd (Int.emod_nonneg _ (by decide)) (Int.lt_of_lt_of_le (Int.emod_lt_of_pos _ (by decide)) (by decide)) ht0 ht (by decide) (by decide) (by decide) (by decide) (by decide) (by decide)) ?_
          walk_at "mf"
          exact k (t + 1) _ _ sx ⟨c, ns, r, eq2, hc2, ncq, hns, hr0, by omega⟩ (by omega) (by omega) (Int.emod_nonneg _ (by omega)) (Int.emod_lt_of_pos _ hn)
theorem ok__law_pick (c : Cn) (T : Tx c) : Cl c 2 "_law_pick" s__law_pick ["quay", "some"] (sp_pick c.K) := by
  obtain ⟨P, w, K, mg, base⟩ := c
  have C__law_moor := ok__law_moor _ T
  refine De.cl (N := ["quay", "some"]) T.d__law_pick sc__law_pick (fun vs H Q E h => ?_) (fun f0 cdv A outer s H vs Q E hA hr h => ?_)
  · obtain ⟨q, a, t, xs, rfl, _⟩ := h; rfl
  · have S := sc__law_pick
    obtain ⟨q, a, t, xs, rfl, hq, ht, na, hs, hne, hl, k⟩ := h
    refine ⟨_, (pss_one (ps_ret (pe_ix ix_seq (pv 1) (pe_f C__law_moor hA hr (by decide) pl__law_moor (by rfl) (pa_cons (pv 0) (pa_cons (pe_callB call_lenU (by rfl) T.n_len PySem.boot_len (pa_cons (pv 1) pa_nil)) pa_nil))) (fun _ _ => rfl)))), ?_⟩
    have hp : 0 < xs.length := by
      cases xs with
      | nil => exact absurd rfl hne
      | cons z r => exact Nat.succ_pos _
    walk_at "mf"
    refine g_len hs ?_
    walk_at "mf"
    refine ⟨q, t, _, rfl, hq, ht, by omega, ?_, fun t' H' i sx hq' h1 h2 h3 h4 => ?_⟩
    · rw [Int.natAbs_natCast]
      exact Nat.lt_of_lt_of_le ((Nat.log2_lt (by omega)).mpr (show xs.length < 2 ^ 10 by omega)) (by decide)
    · walk_at "mf"
      have hi : i.toNat < xs.length := by omega
      refine g_ix (hs.go sx na) (at_of (j := i.toNat) (by omega) (List.getElem?_eq_getElem hi)) ?_
      exact k t' H' _ sx hq' h1 h2 (List.getElem_mem hi)
end Mf
namespace Mf
open PySem PySem.Spec PyProof.Rows L2
local macro_rules | `(tactic| walk_at "mf1") => `(tactic| first
  | ((with_reducible apply g_var); exact rfl)
  | with_reducible first
    | refine g_c ?_ | refine g_op ?_ | refine g_un ?_ | refine g_cb ?_ | refine g_cl ?_ | refine g_clk ?_ | refine g_nil ?_ | refine g_cons ?_
    | refine g_tB ?_ | refine g_test ?_ | refine g_bl ?_ | refine g_and ?_ | refine g_or ?_ | refine g_not ?_ | refine g_andV ?_ | refine g_orV ?_ | refine g_notV ?_
    | refine g_if ?_ | refine g_ifS ?_ | refine g_seq ?_ | refine g_next ?_ | refine g_ret ?_ | refine g_drop ?_ | refine g_asg ?_ | refine g_name ?_ | refine g_sub ?_
    | refine g_int ?_ | refine g_intB ?_ | refine g_abs ?_ | refine g_I0 ?_ | refine g_addI ?_ | refine g_U ?_ | refine g_isNn ?_ | refine g_isNi ?_ | refine g_notN ?_ | refine g_notT1 ?_ | refine g_notT2 ?_ | refine g_notT3 ?_ | refine g_notT4 ?_ | refine g_notTb ?_ | refine g_notTi ?_ | refine g_eqI ?_ | refine g_neI ?_ | refine g_neSs ?_ | refine g_neS ?_ | refine g_eqS ?_
    | refine g_iteT ?_ | refine g_iteF ?_ | refine g_iteNT ?_ | refine g_iteNF ?_ | refine g_lst ?_ | refine g_tup ?_ | refine g_seqP ?_ | refine g_sl ?_ | refine g_noPart ?_ | refine g_part ?_ | refine g_yes ?_ | refine g_thenT ?_ | refine g_consG ?_ | refine g_nilG ?_ | refine g_ii ?_ | refine g_par ?_ | refine g_par3 ?_ | refine g_vv ?_ | refine g_vvv ?_ | refine g_reprB ?_ | refine g_lcL ?_ | refine g_lcR ?_
  | ((with_reducible refine g_mod ?_ ?_); (first | omega | decide))
  | ((with_reducible refine g_div ?_ ?_ ?_); (first | omega | decide); (first | assumption | decide))
  | ((with_reducible refine g_mulL ?_ ?_ ?_); (first | omega | decide); (first | omega | decide))
  | ((with_reducible refine g_mulR ?_ ?_ ?_); (first | omega | decide); (first | omega | decide))
  | ((with_reducible refine g_pow ?_ ?_ ?_ ?_); decide; decide; (first | omega | decide))
  | dsimp only)
local macro_rules | `(tactic| walk_at "mf1s") => `(tactic| first
  | ((with_reducible apply g_var); exact rfl)
  | with_reducible first
    | refine g_c ?_ | refine g_op ?_ | refine g_un ?_ | refine g_cb ?_ | refine g_cl ?_ | refine g_clk ?_ | refine g_nil ?_ | refine g_cons ?_
    | refine g_tB ?_ | refine g_test ?_ | refine g_bl ?_ | refine g_and ?_ | refine g_or ?_ | refine g_not ?_ | refine g_andV ?_ | refine g_orV ?_ | refine g_notV ?_
    | refine g_if ?_ | refine g_ifS ?_ | refine g_next ?_ | refine g_ret ?_ | refine g_drop ?_ | refine g_asg ?_ | refine g_name ?_ | refine g_sub ?_
    | refine g_int ?_ | refine g_intB ?_ | refine g_abs ?_ | refine g_I0 ?_ | refine g_addI ?_ | refine g_U ?_ | refine g_isNn ?_ | refine g_isNi ?_ | refine g_notN ?_ | refine g_notT1 ?_ | refine g_notT2 ?_ | refine g_notT3 ?_ | refine g_notT4 ?_ | refine g_notTb ?_ | refine g_notTi ?_ | refine g_eqI ?_ | refine g_neI ?_ | refine g_neSs ?_ | refine g_neS ?_ | refine g_eqS ?_
    | refine g_iteT ?_ | refine g_iteF ?_ | refine g_iteNT ?_ | refine g_iteNF ?_ | refine g_lst ?_ | refine g_tup ?_ | refine g_seqP ?_ | refine g_sl ?_ | refine g_noPart ?_ | refine g_part ?_ | refine g_yes ?_ | refine g_thenT ?_ | refine g_consG ?_ | refine g_nilG ?_ | refine g_ii ?_ | refine g_par ?_ | refine g_par3 ?_ | refine g_vv ?_ | refine g_vvv ?_ | refine g_reprB ?_ | refine g_lcL ?_ | refine g_lcR ?_
  | ((with_reducible refine g_mod ?_ ?_); (first | omega | decide))
  | ((with_reducible refine g_div ?_ ?_ ?_); (first | omega | decide); (first | assumption | decide))
  | ((with_reducible refine g_mulL ?_ ?_ ?_); (first | omega | decide); (first | omega | decide))
  | ((with_reducible refine g_mulR ?_ ?_ ?_); (first | omega | decide); (first | omega | decide))
  | ((with_reducible refine g_pow ?_ ?_ ?_ ?_); decide; decide; (first | omega | decide))
  | dsimp only)
local macro_rules | `(tactic| walk_at "mfs") => `(tactic| repeat walk_at "mf1s")
local macro_rules | `(tactic| walk_at "mf") => `(tactic| repeat walk_at "mf1")
local macro_rules | `(tactic| walk_at "ed") => `(tactic| repeat (first
  | with_reducible first
    | exact eds_nil | apply eds_cons | exact ed_int | exact ed_bl | exact ed_non | apply ed_neg
  | ((with_reducible apply ed_str); decide)
  | ((with_reducible apply ed_var); (exact rfl); (first | assumption | exact Dq.int _))
  | ((with_reducible apply ed_dict0); assumption)
  | ((with_reducible apply ed_dict2); assumption)
  | ((with_reducible apply ed_tup); assumption)
  | ((with_reducible apply ed_lst); assumption)
  | (with_reducible apply ed_pow)
  | (with_reducible apply ed_mul)
  | assumption
  | (exact Dq.int _)
  | (exact ⟨by decide, by decide, by decide⟩)
  | (show List.length _ ≤ 1000; simp only [List.length_cons, List.length_nil]; decide)))
theorem ok_reduced (c : Cn) (T : Tx c) : Cl c 1 "reduced" s_reduced ["up", "down"] (sp_reduced c.K) := by
  obtain ⟨P, w, K, mg, base⟩ := c
  refine De.cl (N := ["up", "down", "common"]) T.d_reduced sc_reduced (fun vs H Q E h => ?_) (fun f0 cdv A outer s H vs Q E hA hr h => ?_)
  · obtain ⟨u, d, rfl, _⟩ := h; rfl
  · have S := sc_reduced
    obtain ⟨u, d, rfl, hd, hb, k⟩ := h
    refine ⟨_, (pss_cons (ps_set (i := 2) S.nd rfl (by first | exact .inl rfl | exact .inr rfl) (pe_callBfun cr_gcd (by rfl) T.m_gcd (pa_cons (pv 0) (pa_cons (pv 1) pa_nil))))
      (pss_one (ps_ret (pe_tup (pa_cons (pe_op op_fdivW (pv 0) (pv 2)) (pa_cons (pe_op op_fdivW (pv 1) (pv 2)) pa_nil)))))), ?_⟩
    walk_at "mf"
    have hpos : 0 < ((Nat.gcd u.natAbs d.natAbs : Nat) : Int) := by
      have := Nat.gcd_pos_of_pos_right u.natAbs (show 0 < d.natAbs by omega)
      omega
    have hlog : ((Nat.gcd u.natAbs d.natAbs : Nat) : Int).natAbs.log2 < 9000 := by
      refine Bt.log (n := 8000) ?_ (by decide)
      show ((Nat.gcd u.natAbs d.natAbs : Nat) : Int).natAbs < _
      rw [Int.natAbs_natCast]
      exact Nat.lt_of_le_of_lt (Nat.gcd_le_right _ (by omega)) hb
    refine g_gcd ?_
    walk_at "mf"
    refine g_newT (by show 2 ≤ sizeLine; decide) fun p H1 hp s1 e1 => ?_
    rw [red_num u d hd, red_den u d hd] at e1
    exact k p H1 s1 hp e1
theorem ok_read_fraction (c : Cn) (T : Tx c) : Cl c 4 "read_fraction" s_read_fraction ["value", "part"] (sp_read c.K) := by
  obtain ⟨P, w, K, mg, base⟩ := c
  have C_is_fraction := ok_is_fraction _ T
  have C_is_integer := ok_is_integer _ T
  have C_reduced := ok_reduced _ T
  refine De.cl (N := ["value", "part", "up", "down"]) T.d_read_fraction sc_read_fraction (fun vs H Q E h => ?_) (fun f0 cdv A outer s H vs Q E hA hr h => ?_)
  · obtain ⟨q, v, part, r, n, rfl, _⟩ := h; rfl
  · have S := sc_read_fraction
    obtain ⟨q, v, part, r, n, rfl, hf, hn, k⟩ := h
    refine ⟨_, (pss_cons (ps_if (pt_not (pt_val (pe_f C_is_fraction hA hr (by decide) pl_is_fraction (by rfl) (pa_cons (pv 0) pa_nil)))) (pss_one ps_never) pss_nil)
      (pss_cons (ps_if (pt_val (pe_f C_is_integer hA hr (by decide) pl_is_integer (by rfl) (pa_cons (pv 0) pa_nil))) (pss_one (ps_ret (pe_f C_reduced hA hr (by decide) pl_reduced (by rfl) (pa_cons (pv 0) (pa_cons pe_int pa_nil))))) pss_nil)
      (pss_cons (ps_asg (pv 0) (pg_or (pg_tup rfl (pgs_cons (pg_name (i := 2) S.nd rfl (by first | exact .inl rfl | exact .inr rfl)) (pgs_cons (pg_name (i := 3) S.nd rfl (by first | exact .inl rfl | exact .inr rfl)) pgs_nil))) (pg_unl rfl (pgs_cons (pg_name (i := 2) S.nd rfl (by first | exact .inl rfl | exact .inr rfl)) (pgs_cons (pg_name (i := 3) S.nd rfl (by first | exact .inl rfl | exact .inr rfl)) pgs_nil)))))
      (pss_one (ps_ret (pe_f C_reduced hA hr (by decide) pl_reduced (by rfl) (pa_cons (pv 2) (pa_cons (pv 3) pa_nil)))))))), ?_⟩
    rcases hf.cases with ⟨i, rfl, hd, rfl, hb⟩ | ⟨a, d, x, y, rfl, na, hd, e1, e2, hs, hy, rfl, hbx, hby⟩
    · walk_at "mf"
      refine ⟨q, _, _, rfl, hd, ?_⟩
      walk_at "mf"
      refine g_iteF ?_
      walk_at "mf"
      refine ⟨q, _, _, rfl, hd, ?_⟩
      walk_at "mf"
      refine g_iteT ?_
      walk_at "mf"
      exact ⟨i, 1, rfl, by decide, Bt.mono (m := 1) (by show 1 < 2 ^ 1; decide) (by decide), k⟩
    · walk_at "mf"
      refine ⟨q, _, _, rfl, hd, ?_⟩
      rw [e2]
      walk_at "mf"
      refine ⟨q, _, _, rfl, hd, ?_⟩
      rw [e1]
      walk_at "mf"
      refine g_seqG hs rfl ?_
      walk_at "mf"
      exact ⟨x, y, rfl, hy, hby.mono hn, k⟩
theorem ok_fraction_of (c : Cn) (T : Tx c) : Cl c 5 "fraction_of" s_fraction_of ["value"] (sp_frof c.K) := by
  obtain ⟨P, w, K, mg, base⟩ := c
  have C_read_fraction := ok_read_fraction _ T
  refine De.cl (N := ["value"]) T.d_fraction_of sc_fraction_of (fun vs H Q E h => ?_) (fun f0 cdv A outer s H vs Q E hA hr h => ?_)
  · obtain ⟨q, v, r, n, rfl, _⟩ := h; rfl
  · have S := sc_fraction_of
    obtain ⟨q, v, r, n, rfl, hf, hn, k⟩ := h
    refine ⟨_, (pss_one (ps_ret (pe_f C_read_fraction hA hr (by decide) pl_read_fraction (by rfl) (pa_cons (pv 0) (pa_cons pe_str pa_nil))))), ?_⟩
    walk_at "mf"
    exact ⟨q, v, _, r, n, rfl, hf, hn, k⟩
theorem ok_added (c : Cn) (T : Tx c) : Cl c 5 "added" s_added ["one", "other"] (sp_bin (· + ·) c.K) := by
  obtain ⟨P, w, K, mg, base⟩ := c
  have C_read_fraction := ok_read_fraction _ T
  have C_reduced := ok_reduced _ T
  refine De.cl (N := ["one", "other", "up", "down", "more", "below"]) T.d_added sc_added (fun vs H Q E h => ?_) (fun f0 cdv A outer s H vs Q E hA hr h => ?_)
  · obtain ⟨q, v1, v2, r1, r2, m, n, rfl, _⟩ := h; rfl
  · have S := sc_added
    obtain ⟨q, v1, v2, r1, r2, m, n, rfl, h1, h2, hmn, k⟩ := h
    refine ⟨_, (pss_cons (ps_asg (pe_f C_read_fraction hA hr (by decide) pl_read_fraction (by rfl) (pa_cons (pv 0) (pa_cons pe_str pa_nil))) (pg_tup rfl (pgs_cons (pg_name (i := 2) S.nd rfl (by first | exact .inl rfl | exact .inr rfl)) (pgs_cons (pg_name (i := 3) S.nd rfl (by first | exact .inl rfl | exact .inr rfl)) pgs_nil))))
      (pss_cons (ps_asg (pe_f C_read_fraction hA hr (by decide) pl_read_fraction (by rfl) (pa_cons (pv 1) (pa_cons pe_str pa_nil))) (pg_tup rfl (pgs_cons (pg_name (i := 4) S.nd rfl (by first | exact .inl rfl | exact .inr rfl)) (pgs_cons (pg_name (i := 5) S.nd rfl (by first | exact .inl rfl | exact .inr rfl)) pgs_nil))))
      (pss_one (ps_ret (pe_f C_reduced hA hr (by decide) pl_reduced (by rfl) (pa_cons (pe_op op_addU (pe_op op_mulU (pv 2) (pv 5)) (pe_op op_mulU (pv 4) (pv 3))) (pa_cons (pe_op op_mulU (pv 3) (pv 5)) pa_nil))))))), ?_⟩
    walk_at "mf"
    refine ⟨q, v1, _, r1, m, rfl, h1, by omega, fun p1 H1 s1 n1 e1 => ?_⟩
    refine g_tupG (tupU e1) rfl ?_
    walk_at "mf"
    refine ⟨q, v2, _, r2, n, rfl, h2.go (Same.x s1), by omega, fun p2 H2 s2 n2 e2 => ?_⟩
    refine g_tupG (tupU e2) rfl ?_
    have b1 := h1.rb
    have b2 := h2.rb
    have c1 := b1.1.cm b2.2 (by omega)
    have c2 := b2.1.cm b1.2 (by omega)
    have c3 := b1.2.cm b2.2 (by omega)
    have c4 := b1.1.cm b2.1 (by omega)
    walk_at "mf"
    refine g_mulU c1 ?_
    walk_at "mf"
    refine g_mulU c2 ?_
    walk_at "mf"
    refine g_mulU c3 ?_
    walk_at "mf"
    refine ⟨_, _, rfl, dd1 r1 r2, (b1.2.mul b2.2).mono (by omega), ?_⟩
    rw [add_div]
    exact (RetT.same k s1).same s2
theorem ok_taken (c : Cn) (T : Tx c) : Cl c 5 "taken" s_taken ["one", "other"] (sp_bin (· - ·) c.K) := by
  obtain ⟨P, w, K, mg, base⟩ := c
  have C_read_fraction := ok_read_fraction _ T
  have C_reduced := ok_reduced _ T
  refine De.cl (N := ["one", "other", "up", "down", "less", "below"]) T.d_taken sc_taken (fun vs H Q E h => ?_) (fun f0 cdv A outer s H vs Q E hA hr h => ?_)
  · obtain ⟨q, v1, v2, r1, r2, m, n, rfl, _⟩ := h; rfl
  · have S := sc_taken
    obtain ⟨q, v1, v2, r1, r2, m, n, rfl, h1, h2, hmn, k⟩ := h
    refine ⟨_, (pss_cons (ps_asg (pe_f C_read_fraction hA hr (by decide) pl_read_fraction (by rfl) (pa_cons (pv 0) (pa_cons pe_str pa_nil))) (pg_tup rfl (pgs_cons (pg_name (i := 2) S.nd rfl (by first | exact .inl rfl | exact .inr rfl)) (pgs_cons (pg_name (i := 3) S.nd rfl (by first | exact .inl rfl | exact .inr rfl)) pgs_nil))))
      (pss_cons (ps_asg (pe_f C_read_fraction hA hr (by decide) pl_read_fraction (by rfl) (pa_cons (pv 1) (pa_cons pe_str pa_nil))) (pg_tup rfl (pgs_cons (pg_name (i := 4) S.nd rfl (by first | exact .inl rfl | exact .inr rfl)) (pgs_cons (pg_name (i := 5) S.nd rfl (by first | exact .inl rfl | exact .inr rfl)) pgs_nil))))
      (pss_one (ps_ret (pe_f C_reduced hA hr (by decide) pl_reduced (by rfl) (pa_cons (pe_op op_sub (pe_op op_mulU (pv 2) (pv 5)) (pe_op op_mulU (pv 4) (pv 3))) (pa_cons (pe_op op_mulU (pv 3) (pv 5)) pa_nil))))))), ?_⟩
    walk_at "mf"
    refine ⟨q, v1, _, r1, m, rfl, h1, by omega, fun p1 H1 s1 n1 e1 => ?_⟩
    refine g_tupG (tupU e1) rfl ?_
    walk_at "mf"
    refine ⟨q, v2, _, r2, n, rfl, h2.go (Same.x s1), by omega, fun p2 H2 s2 n2 e2 => ?_⟩
    refine g_tupG (tupU e2) rfl ?_
    have b1 := h1.rb
    have b2 := h2.rb
    have c1 := b1.1.cm b2.2 (by omega)
    have c2 := b2.1.cm b1.2 (by omega)
    have c3 := b1.2.cm b2.2 (by omega)
    have c4 := b1.1.cm b2.1 (by omega)
    walk_at "mf"
    refine g_mulU c1 ?_
    walk_at "mf"
    refine g_mulU c2 ?_
    walk_at "mf"
    refine g_mulU c3 ?_
    walk_at "mf"
    refine ⟨_, _, rfl, dd1 r1 r2, (b1.2.mul b2.2).mono (by omega), ?_⟩
    rw [sub_div]
    exact (RetT.same k s1).same s2
theorem ok_multiplied (c : Cn) (T : Tx c) : Cl c 5 "multiplied" s_multiplied ["one", "other"] (sp_bin (· * ·) c.K) := by
  obtain ⟨P, w, K, mg, base⟩ := c
  have C_read_fraction := ok_read_fraction _ T
  have C_reduced := ok_reduced _ T
  refine De.cl (N := ["one", "other", "up", "down", "times", "below"]) T.d_multiplied sc_multiplied (fun vs H Q E h => ?_) (fun f0 cdv A outer s H vs Q E hA hr h => ?_)
  · obtain ⟨q, v1, v2, r1, r2, m, n, rfl, _⟩ := h; rfl
  · have S := sc_multiplied
    obtain ⟨q, v1, v2, r1, r2, m, n, rfl, h1, h2, hmn, k⟩ := h
    refine ⟨_, (pss_cons (ps_asg (pe_f C_read_fraction hA hr (by decide) pl_read_fraction (by rfl) (pa_cons (pv 0) (pa_cons pe_str pa_nil))) (pg_tup rfl (pgs_cons (pg_name (i := 2) S.nd rfl (by first | exact .inl rfl | exact .inr rfl)) (pgs_cons (pg_name (i := 3) S.nd rfl (by first | exact .inl rfl | exact .inr rfl)) pgs_nil))))
      (pss_cons (ps_asg (pe_f C_read_fraction hA hr (by decide) pl_read_fraction (by rfl) (pa_cons (pv 1) (pa_cons pe_str pa_nil))) (pg_tup rfl (pgs_cons (pg_name (i := 4) S.nd rfl (by first | exact .inl rfl | exact .inr rfl)) (pgs_cons (pg_name (i := 5) S.nd rfl (by first | exact .inl rfl | exact .inr rfl)) pgs_nil))))
      (pss_one (ps_ret (pe_f C_reduced hA hr (by decide) pl_reduced (by rfl) (pa_cons (pe_op op_mulU (pv 2) (pv 4)) (pa_cons (pe_op op_mulU (pv 3) (pv 5)) pa_nil))))))), ?_⟩
    walk_at "mf"
    refine ⟨q, v1, _, r1, m, rfl, h1, by omega, fun p1 H1 s1 n1 e1 => ?_⟩
    refine g_tupG (tupU e1) rfl ?_
    walk_at "mf"
    refine ⟨q, v2, _, r2, n, rfl, h2.go (Same.x s1), by omega, fun p2 H2 s2 n2 e2 => ?_⟩
    refine g_tupG (tupU e2) rfl ?_
    have b1 := h1.rb
    have b2 := h2.rb
    have c1 := b1.1.cm b2.2 (by omega)
    have c2 := b2.1.cm b1.2 (by omega)
    have c3 := b1.2.cm b2.2 (by omega)
    have c4 := b1.1.cm b2.1 (by omega)
    walk_at "mf"
    refine g_mulU c4 ?_
    walk_at "mf"
    refine g_mulU c3 ?_
    walk_at "mf"
    refine ⟨_, _, rfl, dd1 r1 r2, (b1.2.mul b2.2).mono (by omega), ?_⟩
    rw [mul_div]
    exact (RetT.same k s1).same s2
end Mf
namespace Mf
open PySem PySem.Spec PyProof.Rows L2
local macro_rules | `(tactic| walk_at "mf1") => `(tactic| first
  | ((with_reducible apply g_var); exact rfl)
  | with_reducible first
    | refine g_c ?_ | refine g_op ?_ | refine g_un ?_ | refine g_cb ?_ | refine g_cl ?_ | refine g_clk ?_ | refine g_nil ?_ | refine g_cons ?_
    | refine g_tB ?_ | refine g_test ?_ | refine g_bl ?_ | refine g_and ?_ | refine g_or ?_ | refine g_not ?_ | refine g_andV ?_ | refine g_orV ?_ | refine g_notV ?_
    | refine g_if ?_ | refine g_ifS ?_ | refine g_seq ?_ | refine g_next ?_ | refine g_ret ?_ | refine g_drop ?_ | refine g_asg ?_ | refine g_name ?_ | refine g_sub ?_
    | refine g_int ?_ | refine g_intB ?_ | refine g_abs ?_ | refine g_I0 ?_ | refine g_addI ?_ | refine g_U ?_ | refine g_isNn ?_ | refine g_isNi ?_ | refine g_notN ?_ | refine g_notT1 ?_ | refine g_notT2 ?_ | refine g_notT3 ?_ | refine g_notT4 ?_ | refine g_notTb ?_ | refine g_notTi ?_ | refine g_eqI ?_ | refine g_neI ?_ | refine g_neSs ?_ | refine g_neS ?_ | refine g_eqS ?_
    | refine g_iteT ?_ | refine g_iteF ?_ | refine g_iteNT ?_ | refine g_iteNF ?_ | refine g_lst ?_ | refine g_tup ?_ | refine g_seqP ?_ | refine g_sl ?_ | refine g_noPart ?_ | refine g_part ?_ | refine g_yes ?_ | refine g_thenT ?_ | refine g_consG ?_ | refine g_nilG ?_ | refine g_ii ?_ | refine g_par ?_ | refine g_par3 ?_ | refine g_vv ?_ | refine g_vvv ?_ | refine g_reprB ?_ | refine g_lcL ?_ | refine g_lcR ?_
  | ((with_reducible refine g_mod ?_ ?_); (first | omega | decide))
  | ((with_reducible refine g_div ?_ ?_ ?_); (first | omega | decide); (first | assumption | decide))
  | ((with_reducible refine g_mulL ?_ ?_ ?_); (first | omega | decide); (first | omega | decide))
  | ((with_reducible refine g_mulR ?_ ?_ ?_); (first | omega | decide); (first | omega | decide))
  | ((with_reducible refine g_pow ?_ ?_ ?_ ?_); decide; decide; (first | omega | decide))
  | dsimp only)
local macro_rules | `(tactic| walk_at "mf1s") => `(tactic| first
  | ((with_reducible apply g_var); exact rfl)
  | with_reducible first
    | refine g_c ?_ | refine g_op ?_ | refine g_un ?_ | refine g_cb ?_ | refine g_cl ?_ | refine g_clk ?_ | refine g_nil ?_ | refine g_cons ?_
    | refine g_tB ?_ | refine g_test ?_ | refine g_bl ?_ | refine g_and ?_ | refine g_or ?_ | refine g_not ?_ | refine g_andV ?_ | refine g_orV ?_ | refine g_notV ?_
    | refine g_if ?_ | refine g_ifS ?_ | refine g_next ?_ | refine g_ret ?_ | refine g_drop ?_ | refine g_asg ?_ | refine g_name ?_ | refine g_sub ?_
    | refine g_int ?_ | refine g_intB ?_ | refine g_abs ?_ | refine g_I0 ?_ | refine g_addI ?_ | refine g_U ?_ | refine g_isNn ?_ | refine g_isNi ?_ | refine g_notN ?_ | refine g_notT1 ?_ | refine g_notT2 ?_ | refine g_notT3 ?_ | refine g_notT4 ?_ | refine g_notTb ?_ | refine g_notTi ?_ | refine g_eqI ?_ | refine g_neI ?_ | refine g_neSs ?_ | refine g_neS ?_ | refine g_eqS ?_
    | refine g_iteT ?_ | refine g_iteF ?_ | refine g_iteNT ?_ | refine g_iteNF ?_ | refine g_lst ?_ | refine g_tup ?_ | refine g_seqP ?_ | refine g_sl ?_ | refine g_noPart ?_ | refine g_part ?_ | refine g_yes ?_ | refine g_thenT ?_ | refine g_consG ?_ | refine g_nilG ?_ | refine g_ii ?_ | refine g_par ?_ | refine g_par3 ?_ | refine g_vv ?_ | refine g_vvv ?_ | refine g_reprB ?_ | refine g_lcL ?_ | refine g_lcR ?_
  | ((with_reducible refine g_mod ?_ ?_); (first | omega | decide))
  | ((with_reducible refine g_div ?_ ?_ ?_); (first | omega | decide); (first | assumption | decide))
  | ((with_reducible refine g_mulL ?_ ?_ ?_); (first | omega | decide); (first | omega | decide))
  | ((with_reducible refine g_mulR ?_ ?_ ?_); (first | omega | decide); (first | omega | decide))
  | ((with_reducible refine g_pow ?_ ?_ ?_ ?_); decide; decide; (first | omega | decide))
  | dsimp only)
local macro_rules | `(tactic| walk_at "mfs") => `(tactic| repeat walk_at "mf1s")
local macro_rules | `(tactic| walk_at "mf") => `(tactic| repeat walk_at "mf1")
local macro_rules | `(tactic| walk_at "ed") => `(tactic| repeat (first
  | with_reducible first
    | exact eds_nil | apply eds_cons | exact ed_int | exact ed_bl | exact ed_non | apply ed_neg
  | ((with_reducible apply ed_str); decide)
  | ((with_reducible apply ed_var); (exact rfl); (first | assumption | exact Dq.int _))
  | ((with_reducible apply ed_dict0); assumption)
  | ((with_reducible apply ed_dict2); assumption)
  | ((with_reducible apply ed_tup); assumption)
  | ((with_reducible apply ed_lst); assumption)
  | (with_reducible apply ed_pow)
  | (with_reducible apply ed_mul)
  | assumption
  | (exact Dq.int _)
  | (exact ⟨by decide, by decide, by decide⟩)
  | (show List.length _ ≤ 1000; simp only [List.length_cons, List.length_nil]; decide)))
theorem ok__law_fraction (c : Cn) (T : Tx c) : Cl c 3 "_law_fraction" s__law_fraction ["quay", "most"] (sp_lfz c.K) := by
  obtain ⟨P, w, K, mg, base⟩ := c
  have C__law_moor := ok__law_moor _ T
  have C__law_pick := ok__law_pick _ T
  refine De.cl (N := ["quay", "most", "up", "down", "by"]) T.d__law_fraction sc__law_fraction (fun vs H Q E h => ?_) (fun f0 cdv A outer s H vs Q E hA hr h => ?_)
  · obtain ⟨q, t, m, rfl, _⟩ := h; rfl
  · have S := sc__law_fraction
    obtain ⟨q, t, m, rfl, hq, ht, hm, hM, k⟩ := h
    refine ⟨_, (pss_cons (ps_par (i := 2) (j := 3) (by rfl) S.nd rfl rfl (by decide) rfl rfl (pa_cons (pe_op op_sub (pe_f C__law_moor hA hr (by decide) pl__law_moor (by rfl) (pa_cons (pv 0) (pa_cons (pe_op op_addU (pe_op op_mulU pe_int (pv 1)) pe_int) pa_nil))) (pv 1)) (pa_cons (pe_op op_addU pe_int (pe_f C__law_moor hA hr (by decide) pl__law_moor (by rfl) (pa_cons (pv 0) (pa_cons (pv 1) pa_nil)))) pa_nil)) (by rfl))
      (pss_cons (ps_set (i := 4) S.nd rfl (by first | exact .inl rfl | exact .inr rfl) (pe_f C__law_pick hA hr (by decide) pl__law_pick (by rfl) (pa_cons (pv 0) (pa_cons (pe_lst (pa_cons pe_int (pa_cons pe_int (pa_cons pe_int (pa_cons pe_int (pa_cons pe_int pa_nil)))))) pa_nil))))
      (pss_one (ps_ret (pe_f C__law_pick hA hr (by decide) pl__law_pick (by rfl) (pa_cons (pv 0) (pa_cons (pe_lst (pa_cons (pv 2) (pa_cons (pe_tup (pa_cons (pe_op op_mulU (pv 2) (pv 4)) (pa_cons (pe_op op_mulU (pv 3) (pv 4)) pa_nil))) (pa_cons (pe_lst (pa_cons (pv 2) (pa_cons (pv 3) pa_nil))) (pa_cons (pe_tup (pa_cons (pv 2) (pa_cons (pv 3) pa_nil))) (pa_cons pe_int (pa_cons (pe_lst (pa_cons pe_int (pa_cons (pv 3) pa_nil))) (pa_cons (pe_tup (pa_cons (pv 4) (pa_cons (pv 4) pa_nil))) pa_nil)))))))) pa_nil))))))), ?_⟩
    have hb1 : Bt 135 (2 * m + 1) := by show (2 * m + 1).natAbs < 2 ^ 135; omega
    have hb2 : Bt 135 m := by show m.natAbs < 2 ^ 135; omega
    walk_at "mf"
    refine ⟨q, t, _, rfl, hq, by omega, by omega, hb1.log (by decide), fun t1 H1 i sx1 hq1 l1 u1 i0 i1 => ?_⟩
    walk_at "mf"
    refine ⟨q, t1, _, rfl, hq1, by omega, by omega, hb2.log (by decide), fun t2 H2 j sx2 hq2 l2 u2 j0 j1 => ?_⟩
    walk_at "mf"
    refine g_newL (by show 5 ≤ sizeLine; decide) fun p3 H3 hp3 s3 e3 => ?_
    walk_at "mf"
    refine ⟨q, p3, t2, _, rfl, hq2.same s3, by omega, hq2.ne hp3, .inl (seqU e3), by simp, by simp only [List.length_cons, List.length_nil]; decide, fun t4 H4 z sx4 hq4 l4 u4 m4 => ?_⟩
    obtain ⟨by', rfl, hy1, hy2⟩ : ∃ y : Int, z = .int y ∧ 1 ≤ y ∧ y ≤ 35 := by
      simp only [List.mem_cons, List.not_mem_nil, or_false] at m4
      rcases m4 with rfl | rfl | rfl | rfl | rfl <;> exact ⟨_, rfl, by decide, by decide⟩
    have bu : Bt 134 (i - m) := by show (i - m).natAbs < 2 ^ 134; omega
    have bd : Bt 134 (1 + j) := by show (1 + j).natAbs < 2 ^ 134; omega
    have bb : Bt 6 by' := by show by'.natAbs < 2 ^ 6; omega
    have d1 : 1 ≤ 1 + j := by omega
    have b1 : Bt 140 ((i - m) * by') := bu.mul bb
    have b2 : Bt 140 ((1 + j) * by') := bd.mul bb
    have d2 : 1 ≤ (1 + j) * by' := Int.le_trans (by decide) (Int.mul_le_mul d1 hy1 (by decide) (by omega))
    have b0 : Bt 140 0 := by show (0 : Int).natAbs < 2 ^ 140; omega
    have bu' : Bt 140 (i - m) := bu.mono (by decide)
    have bd' : Bt 140 (1 + j) := bd.mono (by decide)
    have bb' : Bt 140 by' := bb.mono (by decide)
    have bo : Bt 140 1 := by show (1 : Int).natAbs < 2 ^ 140; omega
    have sx : SameX q H H4 := ((sx1.trans sx2).trans (Same.x s3)).trans sx4
    clear sx1 sx2 s3 sx4 e3 hp3 hq1 hq2 m4
    walk_at "mf"
    refine g_newT (by show 2 ≤ sizeLine; decide) fun p1 Ha n1 sa ea => ?_
    walk_at "mf"
    refine g_newL (by show 2 ≤ sizeLine; decide) fun p2 Hb n2 sb eb => ?_
    walk_at "mf"
    refine g_newT (by show 2 ≤ sizeLine; decide) fun p3 Hc n3 sc ec => ?_
    walk_at "mf"
    refine g_newL (by show 2 ≤ sizeLine; decide) fun p4 Hd n4 sd ed => ?_
    walk_at "mf"
    refine g_newT (by show 2 ≤ sizeLine; decide) fun p5 He n5 se ee => ?_
    walk_at "mf"
    refine g_newL (by show 7 ≤ sizeLine; decide) fun p6 Hf n6 sf ef => ?_
    walk_at "mf"
    have qa := hq4.same sa
    have qb := qa.same sb
    have qc := qb.same sc
    have qd := qc.same sd
    have qe := qd.same se
    refine ⟨q, p6, t4, _, rfl, qe.same sf, by omega, qe.ne n6, .inl (seqU ef), by simp, by simp only [List.length_cons, List.length_nil]; decide, fun t7 H7 x sx7 hq7 l7 u7 mx => ?_⟩
    have xb := sx.trans (Same.x sa)
    have xc := xb.trans (Same.x sb)
    have xd := xc.trans (Same.x sc)
    have xe := xd.trans (Same.x sd)
    have xf := xe.trans (Same.x se)
    have fin : SameX q H H7 := (xf.trans (Same.x sf)).trans sx7
    have kk : ∀ x' y', Fz (fun a => H a ≠ none) H7 x x' y' → 1 ≤ y' → Bt 140 x' → Bt 140 y' → Q x H7 := fun x' y' => k t7 H7 x x' y' fin hq7 (by omega) (by omega)
    simp only [List.mem_cons, List.not_mem_nil, or_false] at mx
    rcases mx with rfl | rfl | rfl | rfl | rfl | rfl | rfl
    · exact kk _ _ (.inl ⟨rfl, rfl⟩) (by decide) bu' bo
    · exact kk _ _ (.inr ⟨p1, rfl, fresh_x sx hq4.at n1, .inl (sx7 _ _ (hq4.ne n1) (sf _ _ (se _ _ (sd _ _ (sc _ _ (sb _ _ ea))))))⟩) d2 b1 b2
    · exact kk _ _ (.inr ⟨p2, rfl, fresh_x xb qa.at n2, .inr (sx7 _ _ (qa.ne n2) (sf _ _ (se _ _ (sd _ _ (sc _ _ eb)))))⟩) d1 bu' bd'
    · exact kk _ _ (.inr ⟨p3, rfl, fresh_x xc qb.at n3, .inl (sx7 _ _ (qb.ne n3) (sf _ _ (se _ _ (sd _ _ ec))))⟩) d1 bu' bd'
    · exact kk _ _ (.inl ⟨rfl, rfl⟩) (by decide) b0 bo
    · exact kk _ _ (.inr ⟨p4, rfl, fresh_x xd qc.at n4, .inr (sx7 _ _ (qc.ne n4) (sf _ _ (se _ _ ed)))⟩) d1 b0 bd'
    · exact kk _ _ (.inr ⟨p5, rfl, fresh_x xe qd.at n5, .inl (sx7 _ _ (qd.ne n5) (sf _ _ ee))⟩) hy1 bb' bb' 
theorem ok__law_pair (c : Cn) (T : Tx c) : Cl c 1 "_law_pair" s__law_pair ["value"] (sp_lpair c.K) := by
  obtain ⟨P, w, K, mg, base⟩ := c
  refine De.cl (N := ["value"]) T.d__law_pair sc__law_pair (fun vs H Q E h => ?_) (fun f0 cdv A outer s H vs Q E hA hr h => ?_)
  · obtain ⟨q, v, d, rfl, _⟩ := h; rfl
  · have S := sc__law_pair
    obtain ⟨q, v, d, rfl, hd, hf, k⟩ := h
    refine ⟨_, (pss_one (ps_ret (pe_ifExp (pt_val (pe_callB call_isi (by rfl) T.n_isinstance (show bootBuiltins "isinstance" = some (.builtin "isinstance") by decide +kernel) (pa_cons (pv 0) (pa_cons (pe_bltn (v := .ty "int") (by rfl) T.n_int (show bootBuiltins "int" = some (.type "int") by decide +kernel) rfl) pa_nil)))) (pe_tup (pa_cons (pv 0) (pa_cons pe_int pa_nil))) (pe_tup (pa_cons (pe_ix ix_seq (pv 0) pe_int (fun _ _ => rfl)) (pa_cons (pe_ix ix_seq (pv 0) pe_int (fun _ _ => rfl)) pa_nil)))))), ?_⟩
    walk_at "mf"
    refine g_isiI hd ?_
    walk_at "mf"
    by_cases e : isSeqD d = true
    · obtain ⟨a, xs, ds, rfl, na, hs, hall, ed⟩ := hd.seq e
      obtain ⟨x, y, hx⟩ : ∃ x y, ds = [.int x, .int y] := by
        rcases fr_shape hf with ⟨i, rfl⟩ | ⟨x, y, hy, rfl | rfl⟩
        · cases e
        · rcases ed with z | z <;> cases z
          exact ⟨x, y, rfl⟩
        · rcases ed with z | z <;> cases z
          exact ⟨x, y, rfl⟩
      subst hx
      cases hall with
      | cons h1 t => cases t with
        | cons h2 t => cases t with
          | nil =>
            cases h1
            cases h2
            have e1 : isIntB d = false := by rcases ed with rfl | rfl <;> rfl
            have u1 : upD d = x := by rcases ed with rfl | rfl <;> rfl
            have u2 : dnD d = y := by rcases ed with rfl | rfl <;> rfl
            rw [u1, u2] at k
            rw [e1]
            refine g_iteF ?_
            walk_at "mf"
            refine g_ix hs (v := .int x) rfl ?_
            walk_at "mf"
            refine g_ix hs (v := .int y) rfl ?_
            walk_at "mf"
            exact g_newT (by show 2 ≤ sizeLine; decide) fun p H1 hp s1 e1 => k p H1 s1 hp e1
    · rcases fr_shape hf with ⟨i, rfl⟩ | ⟨x, y, hy, rfl | rfl⟩
      · cases hd
        refine g_iteT ?_
        walk_at "mf"
        exact g_newT (by show 2 ≤ sizeLine; decide) fun p H1 hp s1 e1 => k p H1 s1 hp e1
      · exact absurd rfl e
      · exact absurd rfl e
end Mf
namespace Mf
open PySem PySem.Spec PyProof.Rows L2
local macro_rules | `(tactic| walk_at "mf1") => `(tactic| first
  | ((with_reducible apply g_var); exact rfl)
  | with_reducible first
    | refine g_c ?_ | refine g_op ?_ | refine g_un ?_ | refine g_cb ?_ | refine g_cl ?_ | refine g_clk ?_ | refine g_nil ?_ | refine g_cons ?_
    | refine g_tB ?_ | refine g_test ?_ | refine g_bl ?_ | refine g_and ?_ | refine g_or ?_ | refine g_not ?_ | refine g_andV ?_ | refine g_orV ?_ | refine g_notV ?_
    | refine g_if ?_ | refine g_ifS ?_ | refine g_seq ?_ | refine g_next ?_ | refine g_ret ?_ | refine g_drop ?_ | refine g_asg ?_ | refine g_name ?_ | refine g_sub ?_
    | refine g_int ?_ | refine g_intB ?_ | refine g_abs ?_ | refine g_I0 ?_ | refine g_addI ?_ | refine g_U ?_ | refine g_isNn ?_ | refine g_isNi ?_ | refine g_notN ?_ | refine g_notT1 ?_ | refine g_notT2 ?_ | refine g_notT3 ?_ | refine g_notT4 ?_ | refine g_notTb ?_ | refine g_notTi ?_ | refine g_eqI ?_ | refine g_neI ?_ | refine g_neSs ?_ | refine g_neS ?_ | refine g_eqS ?_
    | refine g_iteT ?_ | refine g_iteF ?_ | refine g_iteNT ?_ | refine g_iteNF ?_ | refine g_lst ?_ | refine g_tup ?_ | refine g_seqP ?_ | refine g_sl ?_ | refine g_noPart ?_ | refine g_part ?_ | refine g_yes ?_ | refine g_thenT ?_ | refine g_consG ?_ | refine g_nilG ?_ | refine g_ii ?_ | refine g_par ?_ | refine g_par3 ?_ | refine g_vv ?_ | refine g_vvv ?_ | refine g_reprB ?_ | refine g_lcL ?_ | refine g_lcR ?_
  | ((with_reducible refine g_mod ?_ ?_); (first | omega | decide))
  | ((with_reducible refine g_div ?_ ?_ ?_); (first | omega | decide); (first | assumption | decide))
  | ((with_reducible refine g_mulL ?_ ?_ ?_); (first | omega | decide); (first | omega | decide))
  | ((with_reducible refine g_mulR ?_ ?_ ?_); (first | omega | decide); (first | omega | decide))
  | ((with_reducible refine g_pow ?_ ?_ ?_ ?_); decide; decide; (first | omega | decide))
  | dsimp only)
local macro_rules | `(tactic| walk_at "mf1s") => `(tactic| first
  | ((with_reducible apply g_var); exact rfl)
  | with_reducible first
    | refine g_c ?_ | refine g_op ?_ | refine g_un ?_ | refine g_cb ?_ | refine g_cl ?_ | refine g_clk ?_ | refine g_nil ?_ | refine g_cons ?_
    | refine g_tB ?_ | refine g_test ?_ | refine g_bl ?_ | refine g_and ?_ | refine g_or ?_ | refine g_not ?_ | refine g_andV ?_ | refine g_orV ?_ | refine g_notV ?_
    | refine g_if ?_ | refine g_ifS ?_ | refine g_next ?_ | refine g_ret ?_ | refine g_drop ?_ | refine g_asg ?_ | refine g_name ?_ | refine g_sub ?_
    | refine g_int ?_ | refine g_intB ?_ | refine g_abs ?_ | refine g_I0 ?_ | refine g_addI ?_ | refine g_U ?_ | refine g_isNn ?_ | refine g_isNi ?_ | refine g_notN ?_ | refine g_notT1 ?_ | refine g_notT2 ?_ | refine g_notT3 ?_ | refine g_notT4 ?_ | refine g_notTb ?_ | refine g_notTi ?_ | refine g_eqI ?_ | refine g_neI ?_ | refine g_neSs ?_ | refine g_neS ?_ | refine g_eqS ?_
    | refine g_iteT ?_ | refine g_iteF ?_ | refine g_iteNT ?_ | refine g_iteNF ?_ | refine g_lst ?_ | refine g_tup ?_ | refine g_seqP ?_ | refine g_sl ?_ | refine g_noPart ?_ | refine g_part ?_ | refine g_yes ?_ | refine g_thenT ?_ | refine g_consG ?_ | refine g_nilG ?_ | refine g_ii ?_ | refine g_par ?_ | refine g_par3 ?_ | refine g_vv ?_ | refine g_vvv ?_ | refine g_reprB ?_ | refine g_lcL ?_ | refine g_lcR ?_
  | ((with_reducible refine g_mod ?_ ?_); (first | omega | decide))
  | ((with_reducible refine g_div ?_ ?_ ?_); (first | omega | decide); (first | assumption | decide))
  | ((with_reducible refine g_mulL ?_ ?_ ?_); (first | omega | decide); (first | omega | decide))
  | ((with_reducible refine g_mulR ?_ ?_ ?_); (first | omega | decide); (first | omega | decide))
  | ((with_reducible refine g_pow ?_ ?_ ?_ ?_); decide; decide; (first | omega | decide))
  | dsimp only)
local macro_rules | `(tactic| walk_at "mfs") => `(tactic| repeat walk_at "mf1s")
local macro_rules | `(tactic| walk_at "mf") => `(tactic| repeat walk_at "mf1")
local macro_rules | `(tactic| walk_at "ed") => `(tactic| repeat (first
  | with_reducible first
    | exact eds_nil | apply eds_cons | exact ed_int | exact ed_bl | exact ed_non | apply ed_neg
  | ((with_reducible apply ed_str); decide)
  | ((with_reducible apply ed_var); (exact rfl); (first | assumption | exact Dq.int _))
  | ((with_reducible apply ed_dict0); assumption)
  | ((with_reducible apply ed_dict2); assumption)
  | ((with_reducible apply ed_tup); assumption)
  | ((with_reducible apply ed_lst); assumption)
  | (with_reducible apply ed_pow)
  | (with_reducible apply ed_mul)
  | assumption
  | (exact Dq.int _)
  | (exact ⟨by decide, by decide, by decide⟩)
  | (show List.length _ ≤ 1000; simp only [List.length_cons, List.length_nil]; decide)))
theorem ok__law_is (c : Cn) (T : Tx c) : Cl c 1 "_law_is" s__law_is ["told", "up", "down"] (sp_lis c.K) := by
  obtain ⟨P, w, K, mg, base⟩ := c
  refine De.cl (N := ["told", "up", "down", "one", "other"]) T.d__law_is sc__law_is (fun vs H Q E h => ?_) (fun f0 cdv A outer s H vs Q E hA hr h => ?_)
  · obtain ⟨p, U, D, r, n, rfl, _⟩ := h; rfl
  · have S := sc__law_is
    obtain ⟨p, U, D, r, n, rfl, hp, hD, er, br, bU, bD, hn, k⟩ := h
    refine ⟨_, (pss_cons (ps_if (PW.pt (pw_or (pt_not (pt_val (pe_callB call_isi (by rfl) T.n_isinstance (show bootBuiltins "isinstance" = some (.builtin "isinstance") by decide +kernel) (pa_cons (pv 0) (pa_cons (pe_bltn (v := .ty "tuple") (by rfl) T.n_tuple (show bootBuiltins "tuple" = some (.type "tuple") by decide +kernel) rfl) pa_nil))))) (pw_or (pt_cmpR (op_neU hr.units) (pe_callB call_lenU (by rfl) T.n_len PySem.boot_len (pa_cons (pv 0) pa_nil)) pe_int (nomark _)) (pw_or (pt_cmpR (op_neU hr.units) (pe_callB (call_reprU hA hr.units) (by rfl) T.n_repr (show bootBuiltins "repr" = some (.builtin "repr") by decide +kernel) (pa_cons (pv 0) pa_nil)) (pe_callB (call_reprU hA hr.units) (by rfl) T.n_repr (show bootBuiltins "repr" = some (.builtin "repr") by decide +kernel) (pa_cons (pe_tup (pa_cons (pe_callTy call_intU (by rfl) T.n_int PyProof.Rows.boot_int (pa_cons (pe_ix ix_seq (pv 0) pe_int (fun _ _ => rfl)) pa_nil)) (pa_cons (pe_callTy call_intU (by rfl) T.n_int PyProof.Rows.boot_int (pa_cons (pe_ix ix_seq (pv 0) pe_int (fun _ _ => rfl)) pa_nil)) pa_nil))) pa_nil)) (nomark _)) (pw_or1 (pt_cmpR op_lt (pe_ix ix_seq (pv 0) pe_int (fun _ _ => rfl)) pe_int (nomark _))))))) (pss_one (ps_ret pe_bl)) pss_nil)
      (pss_cons (ps_par (i := 3) (j := 4) (by rfl) S.nd rfl rfl (by decide) rfl rfl (pa_cons (pe_callB call_absU (by rfl) T.n_abs (show bootBuiltins "abs" = some (.builtin "abs") by decide +kernel) (pa_cons (pe_ix ix_seq (pv 0) pe_int (fun _ _ => rfl)) pa_nil)) (pa_cons (pe_ix ix_seq (pv 0) pe_int (fun _ _ => rfl)) pa_nil)) (by rfl))
      (pss_cons (ps_while PassesOwn.never (pt_cmpR op_gt (pv 4) pe_int (nomark _)) (pss_one (ps_par (i := 3) (j := 4) (by rfl) S.nd rfl rfl (by decide) rfl rfl (pa_cons (pv 4) (pa_cons (pe_op op_mod (pe_callTy call_intU (by rfl) T.n_int PyProof.Rows.boot_int (pa_cons (pv 3) pa_nil)) (pv 4)) pa_nil)) (by rfl))))
      (pss_one (ps_ret (pe_and (pe_cmpR (op_eqU hr.units) (pv 3) pe_int (nomark _)) (pe_one (pe_cmpR (op_eqU hr.units) (pe_op op_mulU (pe_ix ix_seq (pv 0) pe_int (fun _ _ => rfl)) (pv 2)) (pe_op op_mulU (pv 1) (pe_ix ix_seq (pv 0) pe_int (fun _ _ => rfl))) (nomark _))))))))), ?_⟩
    have hdq : Dq (p + 1) K H (.ref p) (rd r) := .tup (Nat.ne_of_lt (Nat.lt_succ_self p)) hp (.cons (.int _) (.cons (.int _) .nil))
    have hs : Sq K H p (rv r) := .inr hp
    have hd1 := den1 r
    walk_at "mf"
    refine g_isiT hdq ?_
    walk_at "mf"
    refine g_iteNT ?_
    walk_at "mf"
    refine g_len hs ?_
    walk_at "mf"
    refine g_iteF ?_
    walk_at "mf"
    refine g_reprT hp br.1 br.2 hn ?_
    walk_at "mf"
    refine g_ix hs (v := .int r.num) rfl ?_
    walk_at "mf"
    refine g_ix hs (v := .int r.den) rfl ?_
    walk_at "mf"
    refine g_newT (by show 2 ≤ sizeLine; decide) fun p1 H1 hp1 s1 e1 => ?_
    walk_at "mf"
    refine g_reprT (tupU e1) br.1 br.2 hn ?_
    have hs : Sq K H1 p (rv r) := hs.go (Same.x (q := p + 1) s1) (Nat.ne_of_lt (Nat.lt_succ_self p))
    walk_at "mf"
    refine g_ix hs (v := .int r.den) rfl ?_
    walk_at "mf"
    refine g_ite (fun h => absurd (of_decide_eq_true h) (show ¬ (r.den : Int) < 1 by omega)) (fun _ => ?_)
    walk_at "mf"
    refine g_ix hs (v := .int r.num) rfl ?_
    walk_at "mf"
    refine g_ix hs (v := .int r.den) rfl ?_
    walk_at "mf"
    refine ⟨fun m σ' H' => ∃ x y : Int, σ' = [some (.ref p), some (.int U), some (.int D), some (.int x), some (.int y)] ∧ 0 ≤ x ∧ 0 ≤ y ∧ Nat.gcd x.natAbs y.natAbs = 1 ∧ m = y.toNat ∧ H' = H1,
      ⟨(r.den : Int).toNat, (if r.num < 0 then -r.num else r.num), (r.den : Int), rfl, by split <;> omega, by omega, ?_, rfl, rfl⟩, ?_⟩
    · have e : (if r.num < 0 then -r.num else r.num).natAbs = r.num.natAbs := by split <;> omega
      rw [e]
      exact coprime_r r
    · intro m σ' H' hW
      obtain ⟨x, y, rfl, x0, y0, hg, rfl, rfl⟩ := hW
      walk_at "mf"
      refine g_ite (fun h => ?_) (fun h => ?_)
      · have h := of_decide_eq_true h
        refine ⟨fun σ2 H2 => ∃ x' y' : Int, σ2 = [some (.ref p), some (.int U), some (.int D), some (.int x'), some (.int y')] ∧ 0 ≤ x' ∧ 0 ≤ y' ∧ Nat.gcd x'.natAbs y'.natAbs = 1 ∧ y'.toNat < y.toNat ∧ H2 = H', ?_, ?_⟩
        · intro σ2 H2 hN
          obtain ⟨x', y', rfl, a1, a2, a3, a4, rfl⟩ := hN
          exact ⟨_, a4, x', y', rfl, a1, a2, a3, rfl, rfl⟩
        · walk_at "mf"
          have b1 := Int.emod_nonneg x (show y ≠ 0 by omega)
          have b2 := Int.emod_lt_of_pos x h
          have b3 : (x % y).toNat < y.toNat := by
            generalize x % y = z at b1 b2 ⊢
            omega
          refine ⟨y, x % y, rfl, y0, b1, ?_, b3, rfl⟩
          rw [show (x % y).natAbs = x.natAbs % y.natAbs by
            obtain ⟨a, rfl⟩ := Int.eq_ofNat_of_zero_le x0
            obtain ⟨b, rfl⟩ := Int.eq_ofNat_of_zero_le y0
            rw [← Int.natCast_emod]
            simp only [Int.natAbs_natCast]]
          rw [Nat.gcd_comm, ← Nat.gcd_rec]
          rw [Nat.gcd_comm]
          exact hg
      · have h := of_decide_eq_false h
        have hy : y = 0 := by omega
        subst hy
        have hx : x = 1 := by
          rw [show (0 : Int).natAbs = 0 from rfl, Nat.gcd_zero_right] at hg
          omega
        subst hx
        walk_at "mf"
        refine g_iteT ?_
        walk_at "mf"
        refine g_ix hs (v := .int r.num) rfl ?_
        walk_at "mf"
        refine g_mulU (br.1.cm bD (by omega)) ?_
        walk_at "mf"
        refine g_ix hs (v := .int r.den) rfl ?_
        walk_at "mf"
        refine g_mulU (bU.cm br.2 (by omega)) ?_
        walk_at "mf"
        rw [cross hD er, decide_eq_true rfl]
        exact k _ s1
end Mf
namespace Mf
open PySem PySem.Spec PyProof.Rows L2
local macro_rules | `(tactic| walk_at "mf1") => `(tactic| first
  | ((with_reducible apply g_var); exact rfl)
  | with_reducible first
    | refine g_c ?_ | refine g_op ?_ | refine g_un ?_ | refine g_cb ?_ | refine g_cl ?_ | refine g_clk ?_ | refine g_nil ?_ | refine g_cons ?_
    | refine g_tB ?_ | refine g_test ?_ | refine g_bl ?_ | refine g_and ?_ | refine g_or ?_ | refine g_not ?_ | refine g_andV ?_ | refine g_orV ?_ | refine g_notV ?_
    | refine g_if ?_ | refine g_ifS ?_ | refine g_seq ?_ | refine g_next ?_ | refine g_ret ?_ | refine g_drop ?_ | refine g_asg ?_ | refine g_name ?_ | refine g_sub ?_
    | refine g_int ?_ | refine g_intB ?_ | refine g_abs ?_ | refine g_I0 ?_ | refine g_addI ?_ | refine g_U ?_ | refine g_isNn ?_ | refine g_isNi ?_ | refine g_notN ?_ | refine g_notT1 ?_ | refine g_notT2 ?_ | refine g_notT3 ?_ | refine g_notT4 ?_ | refine g_notTb ?_ | refine g_notTi ?_ | refine g_eqI ?_ | refine g_neI ?_ | refine g_neSs ?_ | refine g_neS ?_ | refine g_eqS ?_
    | refine g_iteT ?_ | refine g_iteF ?_ | refine g_iteNT ?_ | refine g_iteNF ?_ | refine g_lst ?_ | refine g_tup ?_ | refine g_seqP ?_ | refine g_sl ?_ | refine g_noPart ?_ | refine g_part ?_ | refine g_yes ?_ | refine g_thenT ?_ | refine g_consG ?_ | refine g_nilG ?_ | refine g_ii ?_ | refine g_par ?_ | refine g_par3 ?_ | refine g_vv ?_ | refine g_vvv ?_ | refine g_reprB ?_ | refine g_lcL ?_ | refine g_lcR ?_
  | ((with_reducible refine g_mod ?_ ?_); (first | omega | decide))
  | ((with_reducible refine g_div ?_ ?_ ?_); (first | omega | decide); (first | assumption | decide))
  | ((with_reducible refine g_mulL ?_ ?_ ?_); (first | omega | decide); (first | omega | decide))
  | ((with_reducible refine g_mulR ?_ ?_ ?_); (first | omega | decide); (first | omega | decide))
  | ((with_reducible refine g_pow ?_ ?_ ?_ ?_); decide; decide; (first | omega | decide))
  | dsimp only)
local macro_rules | `(tactic| walk_at "mf1s") => `(tactic| first
  | ((with_reducible apply g_var); exact rfl)
  | with_reducible first
    | refine g_c ?_ | refine g_op ?_ | refine g_un ?_ | refine g_cb ?_ | refine g_cl ?_ | refine g_clk ?_ | refine g_nil ?_ | refine g_cons ?_
    | refine g_tB ?_ | refine g_test ?_ | refine g_bl ?_ | refine g_and ?_ | refine g_or ?_ | refine g_not ?_ | refine g_andV ?_ | refine g_orV ?_ | refine g_notV ?_
    | refine g_if ?_ | refine g_ifS ?_ | refine g_next ?_ | refine g_ret ?_ | refine g_drop ?_ | refine g_asg ?_ | refine g_name ?_ | refine g_sub ?_
    | refine g_int ?_ | refine g_intB ?_ | refine g_abs ?_ | refine g_I0 ?_ | refine g_addI ?_ | refine g_U ?_ | refine g_isNn ?_ | refine g_isNi ?_ | refine g_notN ?_ | refine g_notT1 ?_ | refine g_notT2 ?_ | refine g_notT3 ?_ | refine g_notT4 ?_ | refine g_notTb ?_ | refine g_notTi ?_ | refine g_eqI ?_ | refine g_neI ?_ | refine g_neSs ?_ | refine g_neS ?_ | refine g_eqS ?_
    | refine g_iteT ?_ | refine g_iteF ?_ | refine g_iteNT ?_ | refine g_iteNF ?_ | refine g_lst ?_ | refine g_tup ?_ | refine g_seqP ?_ | refine g_sl ?_ | refine g_noPart ?_ | refine g_part ?_ | refine g_yes ?_ | refine g_thenT ?_ | refine g_consG ?_ | refine g_nilG ?_ | refine g_ii ?_ | refine g_par ?_ | refine g_par3 ?_ | refine g_vv ?_ | refine g_vvv ?_ | refine g_reprB ?_ | refine g_lcL ?_ | refine g_lcR ?_
  | ((with_reducible refine g_mod ?_ ?_); (first | omega | decide))
  | ((with_reducible refine g_div ?_ ?_ ?_); (first | omega | decide); (first | assumption | decide))
  | ((with_reducible refine g_mulL ?_ ?_ ?_); (first | omega | decide); (first | omega | decide))
  | ((with_reducible refine g_mulR ?_ ?_ ?_); (first | omega | decide); (first | omega | decide))
  | ((with_reducible refine g_pow ?_ ?_ ?_ ?_); decide; decide; (first | omega | decide))
  | dsimp only)
local macro_rules | `(tactic| walk_at "mfs") => `(tactic| repeat walk_at "mf1s")
local macro_rules | `(tactic| walk_at "mf") => `(tactic| repeat walk_at "mf1")
local macro_rules | `(tactic| walk_at "ed") => `(tactic| repeat (first
  | with_reducible first
    | exact eds_nil | apply eds_cons | exact ed_int | exact ed_bl | exact ed_non | apply ed_neg
  | ((with_reducible apply ed_str); decide)
  | ((with_reducible apply ed_var); (exact rfl); (first | assumption | exact Dq.int _))
  | ((with_reducible apply ed_dict0); assumption)
  | ((with_reducible apply ed_dict2); assumption)
  | ((with_reducible apply ed_tup); assumption)
  | ((with_reducible apply ed_lst); assumption)
  | (with_reducible apply ed_pow)
  | (with_reducible apply ed_mul)
  | assumption
  | (exact Dq.int _)
  | (exact ⟨by decide, by decide, by decide⟩)
  | (show List.length _ ≤ 1000; simp only [List.length_cons, List.length_nil]; decide)))
theorem ok_sum_of (c : Cn) (T : Tx c) : Cl c 6 "sum_of" s_sum_of ["some"] (sp_sum c.K) := by
  obtain ⟨P, w, K, mg, base⟩ := c
  have C_added := ok_added _ T
  have C_is_fraction := ok_is_fraction _ T
  have C_is_list := ok_is_list _ T
  refine De.cl (N := ["some", "total", "number"]) T.d_sum_of sc_sum_of (fun vs H Q E h => ?_) (fun f0 cdv A outer s H vs Q E hA hr h => ?_)
  · obtain ⟨q, p, xs, ds, rfl, _⟩ := h; rfl
  · have S := sc_sum_of
    obtain ⟨q, p, xs, ds, rfl, hqt, np, hs, hall, hok, hl, k⟩ := h
    refine ⟨_, (pss_cons (ps_if (PW.pt (pw_or (pt_not (pt_val (pe_f C_is_list hA hr (by decide) pl_is_list (by rfl) (pa_cons (pv 0) pa_nil)))) (pw_or1 (pt_not (pt_val (pe_callB (cr_all rfl) (by rfl) T.n_all (by decide +kernel) (pa_cons (pe_lc (own := [("number", 2)]) (g := gName 2) (tt := tYes) rfl S.nd (pi_or (pi_list (pv 0)) (pi_tup (pv 0))) (blkOk_by (N := ["some", "total", "number"]) (sc := defScope s_sum_of) (by decide +kernel)) (fun _ _ _ _ _ => pg_name (i := 2) S.nd rfl (Or.inl rfl)) (fun _ _ _ _ _ => pts_nil) (fun _ _ _ _ _ => (pe_f C_is_fraction hA hr (by decide) pl_is_fraction (by rfl) (pa_cons (pv 2) pa_nil)))) pa_nil))))))) (pss_one ps_never) pss_nil)
      (pss_cons (ps_set (i := 1) S.nd rfl (by first | exact .inl rfl | exact .inr rfl) (pe_tup (pa_cons pe_int (pa_cons pe_int pa_nil))))
      (pss_cons (ps_for PassesOwn.never rfl (pi_or (pi_list (pv 0)) (pi_tup (pv 0))) (pg_name (i := 2) S.nd rfl (by first | exact .inl rfl | exact .inr rfl)) (pss_one (ps_set (i := 1) S.nd rfl (by first | exact .inl rfl | exact .inr rfl) (pe_f C_added hA hr (by decide) pl_added (by rfl) (pa_cons (pv 1) (pa_cons (pv 2) pa_nil))))))
      (pss_one (ps_ret (pv 1)))))), ?_⟩
    obtain ⟨dd, hdd, hse⟩ : ∃ dd, Dq q K H (.ref p) dd ∧ isSeqD dd = true := by
      rcases hs with hs | hs
      · exact ⟨.list ds, .lst np hs hall, rfl⟩
      · exact ⟨.tuple ds, .tup np hs hall, rfl⟩
    walk_at "mf"
    refine ⟨q, .ref p, dd, rfl, hdd, ?_⟩
    rw [hse]
    walk_at "mf"
    refine cut_lc (fun (H1 : Hp) (D : Addr) => H1 D = some (.lst ((List.replicate xs.length true).map V.bl))) (fun Q' k' => ?_) (fun H1 D s1 e1 => ?_)
    · rcases hs with hs | hs
      · refine g_lcO1 ?_
        walk_at "mf"
        refine ⟨p, rfl, ⟨_, hs⟩, ?_⟩
        refine lcgo_listF (xs := xs) (fun D i H' => Same H H' ∧ H' D = some (.lst (List.replicate i (V.bl true)))) (fun z => rfl) (fun D hD => ⟨same_new hD, upd_same⟩) (fun D i H' _ h => h.1.seq hs) (fun D i z H' hD ez h => ?_) (fun D H' hD h => ?_)
        · obtain ⟨h1, h2⟩ := h
          obtain ⟨d, ed, hd⟩ := hall.get ez
          have hi := (List.getElem?_eq_some_iff.mp ez).1
          walk_at "mf"
          refine ⟨q, z, d, rfl, hd.go (Same.x h1), ?_⟩
          rw [(hok d (List.mem_of_getElem? ed)).1]
          refine ⟨_, h2, ?_, ?_, ?_⟩
          · rw [List.length_replicate]
            exact small1000 (by rw [hall.len] at hi; omega)
          · intro b o e
            rw [upd_ne (ne_of_none e hD)]
            exact h1 b o e
          · rw [upd_same, List.replicate_succ']
        · obtain ⟨h1, h2⟩ := h
          exact k' H' D h1 (by rw [h2, List.map_replicate])
      · refine g_lcO2 ?_
        walk_at "mf"
        refine ⟨p, rfl, ⟨_, hs⟩, ?_⟩
        refine lcgo_tupF (xs := xs) (fun D i H' => Same H H' ∧ H' D = some (.lst (List.replicate i (V.bl true)))) (fun z => rfl) (fun D hD => ⟨same_new hD, upd_same⟩) (fun D i H' _ h => (Same.x (q := q) h.1).tup np hs) (fun D i z H' hD ez h => ?_) (fun D H' hD h => ?_)
        · obtain ⟨h1, h2⟩ := h
          obtain ⟨d, ed, hd⟩ := hall.get ez
          have hi := (List.getElem?_eq_some_iff.mp ez).1
          walk_at "mf"
          refine ⟨q, z, d, rfl, hd.go (Same.x h1), ?_⟩
          rw [(hok d (List.mem_of_getElem? ed)).1]
          refine ⟨_, h2, ?_, ?_, ?_⟩
          · rw [List.length_replicate]
            exact small1000 (by rw [hall.len] at hi; omega)
          · intro b o e
            rw [upd_ne (ne_of_none e hD)]
            exact h1 b o e
          · rw [upd_same, List.replicate_succ']
        · obtain ⟨h1, h2⟩ := h
          exact k' H' D h1 (by rw [h2, List.map_replicate])
    walk_at "mf"
    refine g_all (seqU e1) ?_
    rw [all_rep]
    walk_at "mf"
    refine g_newT (by show 2 ≤ sizeLine; decide) fun p2 H2 n2 s2 e2 => ?_
    walk_at "mf"
    have hs2 : Sq K H2 p xs := (hs.go (Same.x s1) np).go (Same.x s2) np
    refine g_forS rfl hs2 (fun i σ' H' => Same H2 H' ∧ ∃ pt s2', σ' = [some (.ref p), some (.ref pt), s2'] ∧ H pt = none ∧ H' pt = some (.tup (rv (sumQ ((ds.map valQ).take i))))) ⟨Same.refl _, p2, none, rfl, s1.free n2, e2⟩ (fun i σ' H' h => h.1) (fun i x σ' H' ex h => ?_) (fun σ' H' h => ?_)
    · obtain ⟨h1, pt, s2', rfl, npt, hT⟩ := h
      obtain ⟨d, ed, hd⟩ := hall.get ex
      have hi := (List.getElem?_eq_some_iff.mp ex).1
      rw [hall.len] at hi
      obtain ⟨f1, f2, f3⟩ := hok d (List.mem_of_getElem? ed)
      have sA : Same H H' := (s1.trans s2).trans h1
      have Fx := Fr.of (hd.go (Same.x sA)) f1 f2 f3
      have eq1 : (ds.map valQ)[i]? = some (valQ d) := by rw [List.getElem?_map, ed]; rfl
      have bT : Rb 1300 (sumQ ((ds.map valQ).take i)) := by
        refine (Rb_sum _ fun r hr => ?_).mono (m := 1 + 141 * ((ds.map valQ).take i).length) (by rw [List.length_take]; omega)
        obtain ⟨e, he, rfl⟩ := List.mem_map.mp (List.mem_of_mem_take hr)
        obtain ⟨g1, g2, g3⟩ := hok e he
        exact Rb.of (fr_dn g1) g2 g3
      have Ft := Fr.tup (q := q) (K := K) (tupU hT) (ne_trk hqt npt) bT
      walk_at "mf"
      refine ⟨q, .ref pt, x, _, _, 1300, 140, rfl, Ft, Fx, by decide, fun p3 H3 s3 n3 e3 => ?_⟩
      walk_at "mf"
      refine ⟨h1.trans s3, p3, some x, rfl, sA.free n3, ?_⟩
      rw [take_snoc eq1, sumQ_snoc]
      exact e3
    · obtain ⟨h1, pt, s2', rfl, npt, hT⟩ := h
      walk_at "mf"
      rw [hall.len, show ds.length = (ds.map valQ).length by rw [List.length_map], List.take_length] at hT
      have sA : Same H H' := (s1.trans s2).trans h1
      exact k pt H' sA npt hT
theorem ok_mixed (c : Cn) (T : Tx c) : Cl c 6 "mixed" s_mixed ["one", "other", "share"] (sp_mixd c.K) := by
  obtain ⟨P, w, K, mg, base⟩ := c
  have C_added := ok_added _ T
  have C_multiplied := ok_multiplied _ T
  have C_read_fraction := ok_read_fraction _ T
  have C_taken := ok_taken _ T
  refine De.cl (N := ["one", "other", "share", "first", "second", "part"]) T.d_mixed sc_mixed (fun vs H Q E h => ?_) (fun f0 cdv A outer s H vs Q E hA hr h => ?_)
  · obtain ⟨q, v1, v2, v3, r1, r2, r3, rfl, _⟩ := h; rfl
  · have S := sc_mixed
    obtain ⟨q, v1, v2, v3, r1, r2, r3, rfl, hqt, h1, h2, h3, k⟩ := h
    refine ⟨_, (pss_cons (ps_set (i := 3) S.nd rfl (by first | exact .inl rfl | exact .inr rfl) (pe_f C_read_fraction hA hr (by decide) pl_read_fraction (by rfl) (pa_cons (pv 0) (pa_cons pe_str pa_nil))))
      (pss_cons (ps_set (i := 4) S.nd rfl (by first | exact .inl rfl | exact .inr rfl) (pe_f C_read_fraction hA hr (by decide) pl_read_fraction (by rfl) (pa_cons (pv 1) (pa_cons pe_str pa_nil))))
      (pss_cons (ps_set (i := 5) S.nd rfl (by first | exact .inl rfl | exact .inr rfl) (pe_f C_read_fraction hA hr (by decide) pl_read_fraction (by rfl) (pa_cons (pv 2) (pa_cons pe_str pa_nil))))
      (pss_one (ps_ret (pe_f C_added hA hr (by decide) pl_added (by rfl) (pa_cons (pe_f C_multiplied hA hr (by decide) pl_multiplied (by rfl) (pa_cons (pe_f C_taken hA hr (by decide) pl_taken (by rfl) (pa_cons pe_int (pa_cons (pv 5) pa_nil))) (pa_cons (pv 3) pa_nil))) (pa_cons (pe_f C_multiplied hA hr (by decide) pl_multiplied (by rfl) (pa_cons (pv 5) (pa_cons (pv 4) pa_nil))) pa_nil)))))))), ?_⟩
    walk_at "mf"
    refine ⟨q, v1, _, r1, 500, rfl, h1, by decide, fun p1 H1 s1 n1 e1 => ?_⟩
    walk_at "mf"
    refine ⟨q, v2, _, r2, 500, rfl, h2.go (Same.x s1), by decide, fun p2 H2 s2 n2 e2 => ?_⟩
    walk_at "mf"
    refine ⟨q, v3, _, r3, 500, rfl, (h3.go (Same.x s1)).go (Same.x s2), by decide, fun p3 H3 s3 n3 e3 => ?_⟩
    walk_at "mf"
    have t1 := Same.trk s1 hqt
    have t2 := Same.trk s2 t1
    have t3 := Same.trk s3 t2
    have F1 : Fr q K H3 (.ref p1) r1 500 := .tup (tupU (s3 _ _ (s2 _ _ e1))) (ne_trk hqt n1) h1.rb
    have F2 : Fr q K H3 (.ref p2) r2 500 := .tup (tupU (s3 _ _ e2)) (ne_trk t1 n2) h2.rb
    have F3 : Fr q K H3 (.ref p3) r3 500 := .tup (tupU e3) (ne_trk t2 n3) h3.rb
    have Fo : Fr q K H3 (.int 1) 1 1 := by
      have z := Fr.int (q := q) (K := K) (H := H3) (i := 1) (n := 1) (by show (1 : Int).natAbs < 2 ^ 1; decide) (by decide)
      rw [one1] at z
      exact z
    refine ⟨q, .int 1, .ref p3, 1, r3, 1, 500, rfl, Fo, F3, by decide, fun p4 H4 s4 n4 e4 => ?_⟩
    have t4 := Same.trk s4 t3
    have F4 : Fr q K H4 (.ref p4) (1 - r3) 502 := .tup (tupU e4) (ne_trk t3 n4) (Fo.rb.sub F3.rb)
    walk_at "mf"
    refine ⟨q, .ref p4, .ref p1, 1 - r3, r1, 502, 500, rfl, F4, F1.go (Same.x s4), by decide, fun p5 H5 s5 n5 e5 => ?_⟩
    have t5 := Same.trk s5 t4
    have F5 : Fr q K H5 (.ref p5) ((1 - r3) * r1) 1002 := .tup (tupU e5) (ne_trk t4 n5) (F4.rb.mul F1.rb)
    walk_at "mf"
    refine ⟨q, .ref p3, .ref p2, r3, r2, 500, 500, rfl, (F3.go (Same.x s4)).go (Same.x s5), (F2.go (Same.x s4)).go (Same.x s5), by decide, fun p6 H6 s6 n6 e6 => ?_⟩
    have F6 : Fr q K H6 (.ref p6) (r3 * r2) 1000 := .tup (tupU e6) (ne_trk t5 n6) (F3.rb.mul F2.rb)
    walk_at "mf"
    exact ⟨q, .ref p5, .ref p6, _, _, 1002, 1000, rfl, F5.go (Same.x s6), F6, by decide, (((((RetT.same k s1).same s2).same s3).same s4).same s5).same s6⟩
theorem ok_sign_of (c : Cn) (T : Tx c) : Cl c 5 "sign_of" s_sign_of ["value"] (sp_sign c.K) := by
  obtain ⟨P, w, K, mg, base⟩ := c
  have C_read_fraction := ok_read_fraction _ T
  refine De.cl (N := ["value", "up", "_"]) T.d_sign_of sc_sign_of (fun vs H Q E h => ?_) (fun f0 cdv A outer s H vs Q E hA hr h => ?_)
  · obtain ⟨q, v, r, n, rfl, _⟩ := h; rfl
  · have S := sc_sign_of
    obtain ⟨q, v, r, n, rfl, hf, hn, k⟩ := h
    refine ⟨_, (pss_cons (ps_asg (pe_f C_read_fraction hA hr (by decide) pl_read_fraction (by rfl) (pa_cons (pv 0) (pa_cons pe_str pa_nil))) (pg_tup rfl (pgs_cons (pg_name (i := 1) S.nd rfl (by first | exact .inl rfl | exact .inr rfl)) (pgs_cons (pg_name (i := 2) S.nd rfl (by first | exact .inl rfl | exact .inr rfl)) pgs_nil))))
      (pss_cons (ps_if (pt_cmpR op_lt (pv 1) pe_int (nomark _)) (pss_one (ps_ret (pe_un un_neg pe_int))) pss_nil)
      (pss_cons (ps_if (pt_cmpR op_gt (pv 1) pe_int (nomark _)) (pss_one (ps_ret pe_int)) pss_nil)
      (pss_one (ps_ret pe_int))))), ?_⟩
    walk_at "mf"
    refine ⟨q, v, _, r, n, rfl, hf, hn, fun p H1 s1 n1 e1 => ?_⟩
    refine g_tupG (tupU e1) rfl ?_
    walk_at "mf"
    have k := k H1 s1
    unfold sgn at k
    refine g_ite (fun h => ?_) (fun h => ?_)
    · walk_at "mf"
      rw [if_pos (of_decide_eq_true h)] at k
      exact k
    · walk_at "mf"
      rw [if_neg (of_decide_eq_false h)] at k
      refine g_ite (fun h => ?_) (fun h => ?_)
      · walk_at "mf"
        rw [if_pos (of_decide_eq_true h)] at k
        exact k
      · walk_at "mf"
        rw [if_neg (of_decide_eq_false h)] at k
        exact k
end Mf
namespace Mf
open PySem PySem.Spec PyProof.Rows L2
local macro_rules | `(tactic| walk_at "mf1") => `(tactic| first
  | ((with_reducible apply g_var); exact rfl)
  | with_reducible first
    | refine g_c ?_ | refine g_op ?_ | refine g_un ?_ | refine g_cb ?_ | refine g_cl ?_ | refine g_clk ?_ | refine g_nil ?_ | refine g_cons ?_
    | refine g_tB ?_ | refine g_test ?_ | refine g_bl ?_ | refine g_and ?_ | refine g_or ?_ | refine g_not ?_ | refine g_andV ?_ | refine g_orV ?_ | refine g_notV ?_
    | refine g_if ?_ | refine g_ifS ?_ | refine g_seq ?_ | refine g_next ?_ | refine g_ret ?_ | refine g_drop ?_ | refine g_asg ?_ | refine g_name ?_ | refine g_sub ?_
    | refine g_int ?_ | refine g_intB ?_ | refine g_abs ?_ | refine g_I0 ?_ | refine g_addI ?_ | refine g_U ?_ | refine g_isNn ?_ | refine g_isNi ?_ | refine g_notN ?_ | refine g_notT1 ?_ | refine g_notT2 ?_ | refine g_notT3 ?_ | refine g_notT4 ?_ | refine g_notTb ?_ | refine g_notTi ?_ | refine g_eqI ?_ | refine g_neI ?_ | refine g_neSs ?_ | refine g_neS ?_ | refine g_eqS ?_
    | refine g_iteT ?_ | refine g_iteF ?_ | refine g_iteNT ?_ | refine g_iteNF ?_ | refine g_lst ?_ | refine g_tup ?_ | refine g_seqP ?_ | refine g_sl ?_ | refine g_noPart ?_ | refine g_part ?_ | refine g_yes ?_ | refine g_thenT ?_ | refine g_consG ?_ | refine g_nilG ?_ | refine g_ii ?_ | refine g_par ?_ | refine g_par3 ?_ | refine g_vv ?_ | refine g_vvv ?_ | refine g_reprB ?_ | refine g_lcL ?_ | refine g_lcR ?_
  | ((with_reducible refine g_mod ?_ ?_); (first | omega | decide))
  | ((with_reducible refine g_div ?_ ?_ ?_); (first | omega | decide); (first | assumption | decide))
  | ((with_reducible refine g_mulL ?_ ?_ ?_); (first | omega | decide); (first | omega | decide))
  | ((with_reducible refine g_mulR ?_ ?_ ?_); (first | omega | decide); (first | omega | decide))
  | ((with_reducible refine g_pow ?_ ?_ ?_ ?_); decide; decide; (first | omega | decide))
  | dsimp only)
local macro_rules | `(tactic| walk_at "mf1s") => `(tactic| first
  | ((with_reducible apply g_var); exact rfl)
  | with_reducible first
    | refine g_c ?_ | refine g_op ?_ | refine g_un ?_ | refine g_cb ?_ | refine g_cl ?_ | refine g_clk ?_ | refine g_nil ?_ | refine g_cons ?_
    | refine g_tB ?_ | refine g_test ?_ | refine g_bl ?_ | refine g_and ?_ | refine g_or ?_ | refine g_not ?_ | refine g_andV ?_ | refine g_orV ?_ | refine g_notV ?_
    | refine g_if ?_ | refine g_ifS ?_ | refine g_next ?_ | refine g_ret ?_ | refine g_drop ?_ | refine g_asg ?_ | refine g_name ?_ | refine g_sub ?_
    | refine g_int ?_ | refine g_intB ?_ | refine g_abs ?_ | refine g_I0 ?_ | refine g_addI ?_ | refine g_U ?_ | refine g_isNn ?_ | refine g_isNi ?_ | refine g_notN ?_ | refine g_notT1 ?_ | refine g_notT2 ?_ | refine g_notT3 ?_ | refine g_notT4 ?_ | refine g_notTb ?_ | refine g_notTi ?_ | refine g_eqI ?_ | refine g_neI ?_ | refine g_neSs ?_ | refine g_neS ?_ | refine g_eqS ?_
    | refine g_iteT ?_ | refine g_iteF ?_ | refine g_iteNT ?_ | refine g_iteNF ?_ | refine g_lst ?_ | refine g_tup ?_ | refine g_seqP ?_ | refine g_sl ?_ | refine g_noPart ?_ | refine g_part ?_ | refine g_yes ?_ | refine g_thenT ?_ | refine g_consG ?_ | refine g_nilG ?_ | refine g_ii ?_ | refine g_par ?_ | refine g_par3 ?_ | refine g_vv ?_ | refine g_vvv ?_ | refine g_reprB ?_ | refine g_lcL ?_ | refine g_lcR ?_
  | ((with_reducible refine g_mod ?_ ?_); (first | omega | decide))
  | ((with_reducible refine g_div ?_ ?_ ?_); (first | omega | decide); (first | assumption | decide))
  | ((with_reducible refine g_mulL ?_ ?_ ?_); (first | omega | decide); (first | omega | decide))
  | ((with_reducible refine g_mulR ?_ ?_ ?_); (first | omega | decide); (first | omega | decide))
  | ((with_reducible refine g_pow ?_ ?_ ?_ ?_); decide; decide; (first | omega | decide))
  | dsimp only)
local macro_rules | `(tactic| walk_at "mfs") => `(tactic| repeat walk_at "mf1s")
local macro_rules | `(tactic| walk_at "mf") => `(tactic| repeat walk_at "mf1")
local macro_rules | `(tactic| walk_at "ed") => `(tactic| repeat (first
  | with_reducible first
    | exact eds_nil | apply eds_cons | exact ed_int | exact ed_bl | exact ed_non | apply ed_neg
  | ((with_reducible apply ed_str); decide)
  | ((with_reducible apply ed_var); (exact rfl); (first | assumption | exact Dq.int _))
  | ((with_reducible apply ed_dict0); assumption)
  | ((with_reducible apply ed_dict2); assumption)
  | ((with_reducible apply ed_tup); assumption)
  | ((with_reducible apply ed_lst); assumption)
  | (with_reducible apply ed_pow)
  | (with_reducible apply ed_mul)
  | assumption
  | (exact Dq.int _)
  | (exact ⟨by decide, by decide, by decide⟩)
  | (show List.length _ ≤ 1000; simp only [List.length_cons, List.length_nil]; decide)))
def sp_law (K : PySem.W.Frag) : Sp := fun vs H Q _ => ∃ (a : Addr) (ns : List Int), vs = [.ref a] ∧ SqL K H a (ns.map V.int) ∧ ns.length ≤ 63 ∧ ∀ H', Q (.bl true) H'
theorem ok_law (c : Cn) (T : Tx c) : Cl c 7 "law" s_law ["script"] (sp_law c.K) := by
  obtain ⟨P, w, K, mg, base⟩ := c
  have C__law_fraction := ok__law_fraction _ T
  have C__law_is := ok__law_is _ T
  have C__law_pair := ok__law_pair _ T
  have C__law_pick := ok__law_pick _ T
  have C__law_quay := ok__law_quay _ T
  have C_fraction_of := ok_fraction_of _ T
  have C_mixed := ok_mixed _ T
  have C_sign_of := ok_sign_of _ T
  have C_sum_of := ok_sum_of _ T
  refine De.cl (N := ["script", "quay", "turn", "most", "some", "up", "down", "value", "a", "b", "one", "other", "share", "c", "d", "e", "f", "told", "each"]) T.d_law sc_law (fun vs H Q E h => ?_) (fun f0 cdv A outer s H vs Q E hA hr h => ?_)
  · obtain ⟨a, ns, rfl, _⟩ := h; rfl
  · have S := sc_law
    obtain ⟨a, ns, rfl, hS, hlen, k⟩ := h
    refine ⟨_, (pss_cons (ps_set (i := 1) S.nd rfl (by first | exact .inl rfl | exact .inr rfl) (pe_f C__law_quay hA hr (by decide) pl__law_quay (by rfl) (pa_cons (pv 0) pa_nil)))
      (pss_cons (ps_for PassesOwn.never rfl (pi_range1 rfl T.n_range (pa_cons pe_int pa_nil)) (pg_name (i := 2) S.nd rfl (by first | exact .inl rfl | exact .inr rfl)) (pss_cons (ps_set (i := 3) S.nd rfl (by first | exact .inl rfl | exact .inr rfl) (pe_f C__law_pick hA hr (by decide) pl__law_pick (by rfl) (pa_cons (pv 1) (pa_cons (pe_lst (pa_cons pe_int (pa_cons pe_int (pa_cons pe_int (pa_cons (pe_op op_pow pe_int pe_int) pa_nil))))) pa_nil))))
      (pss_cons (ps_setLc (i := 4) (own := [("each", 18)]) (g := gName 18) (tt := tYes) rfl S.nd rfl rfl (sw_true rfl rfl rfl (by decide +kernel)) (pi_range1 rfl T.n_range (pa_cons (pe_f C__law_pick hA hr (by decide) pl__law_pick (by rfl) (pa_cons (pv 1) (pa_cons (pe_lst (pa_cons pe_int (pa_cons pe_int (pa_cons pe_int (pa_cons pe_int (pa_cons pe_int pa_nil)))))) pa_nil))) pa_nil)) (blkOk_by (N := ["script", "quay", "turn", "most", "some", "up", "down", "value", "a", "b", "one", "other", "share", "c", "d", "e", "f", "told", "each"]) (sc := defScope s_law) (by decide +kernel)) (fun _ _ _ _ _ => pg_name (i := 18) S.nd rfl (Or.inl rfl)) (fun _ _ _ _ _ => pts_nil) (fun _ _ _ _ _ => (pe_f C__law_fraction hA hr (by decide) pl__law_fraction (by rfl) (pa_cons (pv 1) (pa_cons (pv 3) pa_nil)))))
      (pss_cons (ps_asg (pe_tup (pa_cons pe_int (pa_cons pe_int pa_nil))) (pg_tup rfl (pgs_cons (pg_name (i := 5) S.nd rfl (by first | exact .inl rfl | exact .inr rfl)) (pgs_cons (pg_name (i := 6) S.nd rfl (by first | exact .inl rfl | exact .inr rfl)) pgs_nil))))
      (pss_cons (ps_for PassesOwn.never rfl (pi_list (pv 4)) (pg_name (i := 7) S.nd rfl (by first | exact .inl rfl | exact .inr rfl)) (pss_cons (ps_asg (pe_f C__law_pair hA hr (by decide) pl__law_pair (by rfl) (pa_cons (pv 7) pa_nil)) (pg_tup rfl (pgs_cons (pg_name (i := 8) S.nd rfl (by first | exact .inl rfl | exact .inr rfl)) (pgs_cons (pg_name (i := 9) S.nd rfl (by first | exact .inl rfl | exact .inr rfl)) pgs_nil))))
      (pss_one (ps_par (i := 5) (j := 6) (by rfl) S.nd rfl rfl (by decide) rfl rfl (pa_cons (pe_op op_addU (pe_op op_mulU (pv 5) (pv 9)) (pe_op op_mulU (pv 8) (pv 6))) (pa_cons (pe_op op_mulU (pv 6) (pv 9)) pa_nil)) (by rfl)))))
      (pss_cons (ps_if (PW.pt (pw_or (pt_not (pt_val (pe_f C__law_is hA hr (by decide) pl__law_is (by rfl) (pa_cons (pe_f C_sum_of hA hr (by decide) pl_sum_of (by rfl) (pa_cons (pv 4) pa_nil)) (pa_cons (pv 5) (pa_cons (pv 6) pa_nil)))))) (pw_or1 (pt_cmpR (op_neU hr.units) (pe_fk C_sum_of hA hr (by decide) pk_sum_of relR (lenR rfl) (by rfl) (pk_cons (pe_tupleOf (by rfl) T.n_tuple (pv 4)) pk_nil)) (pe_f C_sum_of hA hr (by decide) pl_sum_of (by rfl) (pa_cons (pv 4) pa_nil)) (nomark _))))) (pss_one (ps_ret pe_bl)) pss_nil)
      (pss_cons (ps_par3 (i := 10) (j := 11) (l := 12) (by rfl) S.nd rfl rfl rfl (by decide) (by decide) (by decide) rfl rfl rfl (pa_cons (pe_f C__law_fraction hA hr (by decide) pl__law_fraction (by rfl) (pa_cons (pv 1) (pa_cons (pv 3) pa_nil))) (pa_cons (pe_f C__law_fraction hA hr (by decide) pl__law_fraction (by rfl) (pa_cons (pv 1) (pa_cons (pv 3) pa_nil))) (pa_cons (pe_f C__law_pick hA hr (by decide) pl__law_pick (by rfl) (pa_cons (pv 1) (pa_cons (pe_lst (pa_cons (pe_tup (pa_cons pe_int (pa_cons pe_int pa_nil))) (pa_cons (pe_tup (pa_cons pe_int (pa_cons pe_int pa_nil))) (pa_cons pe_int (pa_cons pe_int (pa_cons (pe_f C__law_fraction hA hr (by decide) pl__law_fraction (by rfl) (pa_cons (pv 1) (pa_cons pe_int pa_nil))) pa_nil)))))) pa_nil))) pa_nil))) (by rfl))
      (pss_cons (ps_asg (pe_tup (pa_cons (pe_f C__law_pair hA hr (by decide) pl__law_pair (by rfl) (pa_cons (pv 10) pa_nil)) (pa_cons (pe_f C__law_pair hA hr (by decide) pl__law_pair (by rfl) (pa_cons (pv 11) pa_nil)) (pa_cons (pe_f C__law_pair hA hr (by decide) pl__law_pair (by rfl) (pa_cons (pv 12) pa_nil)) pa_nil)))) (pg_tup rfl (pgs_cons (pg_tup rfl (pgs_cons (pg_name (i := 8) S.nd rfl (by first | exact .inl rfl | exact .inr rfl)) (pgs_cons (pg_name (i := 9) S.nd rfl (by first | exact .inl rfl | exact .inr rfl)) pgs_nil))) (pgs_cons (pg_tup rfl (pgs_cons (pg_name (i := 13) S.nd rfl (by first | exact .inl rfl | exact .inr rfl)) (pgs_cons (pg_name (i := 14) S.nd rfl (by first | exact .inl rfl | exact .inr rfl)) pgs_nil))) (pgs_cons (pg_tup rfl (pgs_cons (pg_name (i := 15) S.nd rfl (by first | exact .inl rfl | exact .inr rfl)) (pgs_cons (pg_name (i := 16) S.nd rfl (by first | exact .inl rfl | exact .inr rfl)) pgs_nil))) pgs_nil)))))
      (pss_cons (ps_set (i := 17) S.nd rfl (by first | exact .inl rfl | exact .inr rfl) (pe_f C_mixed hA hr (by decide) pl_mixed (by rfl) (pa_cons (pv 10) (pa_cons (pv 11) (pa_cons (pv 12) pa_nil)))))
      (pss_cons (ps_if (PW.pt (pw_or (pt_not (pt_val (pe_f C__law_is hA hr (by decide) pl__law_is (by rfl) (pa_cons (pv 17) (pa_cons (pe_op op_addU (pe_op op_mulU (pe_op op_mulU (pe_op op_sub (pv 16) (pv 15)) (pv 8)) (pv 14)) (pe_op op_mulU (pe_op op_mulU (pv 15) (pv 13)) (pv 9))) (pa_cons (pe_op op_mulU (pe_op op_mulU (pv 16) (pv 9)) (pv 14)) pa_nil)))))) (pw_or1 (pt_cmpR (op_neU hr.units) (pe_fk C_mixed hA hr (by decide) pk_mixed relR (lenR rfl) (by rfl) (pk_cons (pv 12) (pk_cons (pv 11) (pk_cons (pv 10) pk_nil)))) (pv 17) (nomark _))))) (pss_one (ps_ret pe_bl)) pss_nil)
      (pss_cons (ps_if (PW.pt (pw_or (pt_cmpR (op_neU hr.units) (pe_f C_mixed hA hr (by decide) pl_mixed (by rfl) (pa_cons (pv 10) (pa_cons (pv 11) (pa_cons pe_int pa_nil)))) (pe_f C_fraction_of hA hr (by decide) pl_fraction_of (by rfl) (pa_cons (pv 10) pa_nil)) (nomark _)) (pw_or1 (pt_cmpR (op_neU hr.units) (pe_f C_mixed hA hr (by decide) pl_mixed (by rfl) (pa_cons (pv 10) (pa_cons (pv 11) (pa_cons pe_int pa_nil)))) (pe_f C_fraction_of hA hr (by decide) pl_fraction_of (by rfl) (pa_cons (pv 11) pa_nil)) (nomark _))))) (pss_one (ps_ret pe_bl)) pss_nil)
      (pss_one (ps_if (pt_cmpR (op_neU hr.units) (pe_callB (call_reprU hA hr.units) (by rfl) T.n_repr (show bootBuiltins "repr" = some (.builtin "repr") by decide +kernel) (pa_cons (pe_lst (pa_cons (pe_f C_sign_of hA hr (by decide) pl_sign_of (by rfl) (pa_cons (pv 10) pa_nil)) (pa_cons (pe_fk C_sign_of hA hr (by decide) pk_sign_of relR (lenR rfl) (by rfl) (pk_cons (pv 11) pk_nil)) pa_nil))) pa_nil)) (pe_callB (call_reprU hA hr.units) (by rfl) T.n_repr (show bootBuiltins "repr" = some (.builtin "repr") by decide +kernel) (pa_cons (pe_lst (pa_cons (pe_op op_sub (pe_callTy call_intU (by rfl) T.n_int PyProof.Rows.boot_int (pa_cons (pe_cmpR op_gt (pv 8) pe_int (nomark _)) pa_nil)) (pe_callTy call_intU (by rfl) T.n_int PyProof.Rows.boot_int (pa_cons (pe_cmpR op_lt (pv 8) pe_int (nomark _)) pa_nil))) (pa_cons (pe_op op_sub (pe_callTy call_intU (by rfl) T.n_int PyProof.Rows.boot_int (pa_cons (pe_cmpR op_gt (pv 13) pe_int (nomark _)) pa_nil)) (pe_callTy call_intU (by rfl) T.n_int PyProof.Rows.boot_int (pa_cons (pe_cmpR op_lt (pv 13) pe_int (nomark _)) pa_nil))) pa_nil))) pa_nil)) (nomark _)) (pss_one (ps_ret pe_bl)) pss_nil)))))))))))))
      (pss_one (ps_ret pe_bl)))), ?_⟩
    refine g_seq (g_asg ?_)
    walk_at "mf"
    refine ⟨a, ns, rfl, hS, hlen, fun q H1 s1 hq0 hq => ?_⟩
    refine g_name (g_seq ?_)
    refine g_for1 ⟨by decide, by decide⟩ (fun i σ' H' => (∃ s2 s3 s4 s5 s6 s7 s8 s9 s10 s11 s12 s13 s14 s15 s16 s17 s18, σ' = [some (.ref a), some (.ref q), s2, s3, s4, s5, s6, s7, s8, s9, s10, s11, s12, s13, s14, s15, s16, s17, s18]) ∧ ∃ t, Qy K q t H' ∧ t ≤ 60 * (i : Int)) ⟨⟨_, _, _, _, _, _, _, _, _, _, _, _, _, _, _, _, _, rfl⟩, 0, hq, by omega⟩ (fun i σ' H' hi hP => ?_) (fun σ' H' hP => ?_)
    · obtain ⟨⟨s2, s3, s4, s5, s6, s7, s8, s9, s10, s11, s12, s13, s14, s15, s16, s17, s18, rfl⟩, t, hq, ht⟩ := hP
      have hi8 : i < 4 := hi
      clear hS hlen s1 hq0
      walk_at "mf"
      refine g_newL (by show 4 ≤ sizeLine; decide) fun p2 H2 hp2 s2' e2 => ?_
      walk_at "mf"
      refine ⟨q, p2, t, _, rfl, hq.same s2', by omega, hq.ne hp2, .inl (seqU e2), by simp, by simp only [List.length_cons, List.length_nil]; decide, fun t3 H3 x3 sx3 hq3 l3 u3 m3 => ?_⟩
      obtain ⟨m, rfl, hm1, hm2⟩ : ∃ y : Int, x3 = .int y ∧ 1 ≤ y ∧ y ≤ 10000000000000000000000000000000000000000 := by
        simp only [List.mem_cons, List.not_mem_nil, or_false] at m3
        rcases m3 with rfl | rfl | rfl | rfl <;> exact ⟨_, rfl, by decide, by decide⟩
      clear hq e2 hp2 s2' sx3 m3
      walk_at "mf"
      refine g_newL (by show 5 ≤ sizeLine; decide) fun p4 H4 hp4 s4' e4 => ?_
      walk_at "mf"
      refine ⟨q, p4, t3, _, rfl, hq3.same s4', by omega, hq3.ne hp4, .inl (seqU e4), by simp, by simp only [List.length_cons, List.length_nil]; decide, fun t5 H5 x5 sx5 hq5 l5 u5 m5 => ?_⟩
      obtain ⟨n, rfl, hn9⟩ : ∃ n : Nat, x5 = .int (n : Int) ∧ n ≤ 9 := by
        simp only [List.mem_cons, List.not_mem_nil, or_false] at m5
        rcases m5 with rfl | rfl | rfl | rfl | rfl
        · exact ⟨0, rfl, by decide⟩
        · exact ⟨1, rfl, by decide⟩
        · exact ⟨2, rfl, by decide⟩
        · exact ⟨5, rfl, by decide⟩
        · exact ⟨9, rfl, by decide⟩
      clear hq3 e4 hp4 s4' sx5 m5
      walk_at "mf"
      refine ⟨_, rfl, by omega, by omega, ?_⟩
      refine lcgo_range (fun D i H' => ∃ t' vs fs, Qy K q t' H' ∧ t5 ≤ t' ∧ t' ≤ t5 + 4 * (i : Int) ∧ Qn q D H' ∧ H' D = some (.lst vs) ∧ vs.length = i ∧ FzAll (fun b => b = q ∨ b = D) H' vs fs) (fun z => rfl)
        (fun D hD => ⟨t5, [], [], hq5.upd (Qn.new hq5 hD) (hq5.ne hD), by omega, by omega, Qn.upd hq5 (Qn.new hq5 hD) (hq5.ne hD), upd_same, rfl, .nil⟩) (fun D j H' hD hj h => ?_) (fun D H' hD h => ?_)
      · obtain ⟨t', vs, fs, hq', lt', ut', hn', eD, lv, hall⟩ := h
        walk_at "mf"
        refine ⟨q, t', m, rfl, hq', by omega, hm1, hm2, fun t6 H6 v x y sx6 hq6 l6 u6 hz hy bx hby => ?_⟩
        have nD : D ≠ q := hq5.ne hD
        have hn6 := hn'.go hq' sx6
        have eD6 := sx6 _ _ nD eD
        have lt : vs.length < 1000 := by
          rw [lv]
          have : ((n : Int)).toNat = n := Int.toNat_natCast n
          omega
        refine ⟨vs, eD6, small1000 (Nat.le_of_lt lt), t6, vs ++ [v], fs ++ [⟨x, y, hy, bx, hby⟩], hq6.upd hn6 nD, by omega, by omega, Qn.upd hq6 hn6 nD, upd_same, by rw [List.length_append, lv]; rfl, FzAll.app (f := ⟨x, y, hy, bx, hby⟩) (hz.go fun b o nb eb => ?_) (hall.go fun b o nb eb => ⟨?_, nb⟩)⟩
        · have nbq : b ≠ q := fun z => nb (z ▸ hq'.trk)
          have nbD : b ≠ D := fun z => nb (by rw [z, eD]; exact Option.some_ne_none _)
          refine ⟨by rw [upd_ne nbD]; exact eb, fun z => ?_⟩
          rcases z with z | z
          · exact nbq z
          · exact nbD z
        · rw [upd_ne (fun z => nb (.inr z))]
          exact sx6 _ _ (fun z => nb (.inl z)) eb
      · obtain ⟨t6, vs, fs, hq6, l6, u6, hn6, eD, lv, hall⟩ := h
        have nn : ((n : Int)).toNat = n := Int.toNat_natCast n
        rw [nn] at lv u6
        have nD : D ≠ q := hq5.ne hD
        clear hD hq5 hn6
        obtain ⟨ds, hds, hok, eds⟩ := hall.dq (K := K) (q := q) (.inl rfl)
        have ld : ds.length ≤ 9 := by rw [← hds.len, lv]; exact hn9
        clear hall eds fs
        walk_at "mf"
        refine g_newT (by show 2 ≤ sizeLine; decide) fun p6 H6 n6 s6' e6 => ?_
        refine g_tupG (tupU e6) rfl ?_
        have eD := s6' _ _ eD
        have hds := hds.go (Same.x s6')
        have hq6 := hq6.same s6'
        clear s6' e6 n6
        walk_at "mf"
        refine g_forL rfl (seqU eD) (fun j σ' Hx => (∃ s7 s8 s9 u d, σ' = [some (.ref a), some (.ref q), some (.int (0 + (i : Int))), some (.int m), some (.ref D), some (.int u), some (.int d), s7, s8, s9, s10, s11, s12, s13, s14, s15, s16, s17, s18] ∧ 1 ≤ d ∧ Bt (141 * j + 1) u ∧ Bt (141 * j + 1) d ∧ Rat.divInt u d = sumQ ((ds.map valQ).take j)) ∧ Same H6 Hx)
          ⟨⟨_, _, _, 0, 1, rfl, by decide, by show (0 : Int).natAbs < _; decide, by show (1 : Int).natAbs < _; decide, zero1⟩, Same.refl _⟩ (fun j σ' Hx h => h.2) (fun j x σ' Hx ex h => ?_) (fun σ' Hx h => ?_)
        · obtain ⟨⟨s7, s8, s9, u, d, rfl, hd1, bu, bd, eu⟩, hS⟩ := h
          obtain ⟨dx, edx, hdx⟩ := hds.get ex
          have hj := (List.getElem?_eq_some_iff.mp edx).1
          obtain ⟨g1, g2, g3⟩ := hok dx (List.mem_of_getElem? edx)
          have g4 := fr_dn g1
          have eq1 : (ds.map valQ)[j]? = some (valQ dx) := by rw [List.getElem?_map, edx]; rfl
          walk_at "mf"
          refine ⟨q, x, dx, rfl, hdx.go (Same.x hS), g1, fun p7 H7 s7' n7 e7 => ?_⟩
          refine g_tupG (tupU e7) rfl ?_
          walk_at "mf"
          refine g_mulU (bu.cm g3 (by omega)) ?_
          walk_at "mf"
          refine g_mulU (g2.cm bd (by omega)) ?_
          walk_at "mf"
          refine g_mulU (bd.cm g3 (by omega)) ?_
          walk_at "mf"
          refine ⟨⟨_, _, _, _, _, rfl, Int.le_trans (by decide) (Int.mul_le_mul hd1 g4 (by decide) (by omega)), (((bu.mul g3).mono (n := 141 * j + 141) (by omega)).add ((g2.mul bd).mono (by omega))).mono (by omega), (bd.mul g3).mono (by omega), ?_⟩, hS.trans s7'⟩
          rw [take_snoc eq1, sumQ_snoc, ← eu]
          exact (Rat.divInt_add_divInt _ _ (by omega) (by omega)).symm
        · obtain ⟨⟨s7, s8, s9, u, d, rfl, hd1, bu, bd, eu⟩, hS⟩ := h
          have hv : vs.length = (ds.map valQ).length := by rw [List.length_map]; exact hds.len
          rw [hv, List.take_length] at eu
          rw [hds.len] at bu bd
          have bu : Bt 1300 u := bu.mono (by omega)
          have bd : Bt 1300 d := bd.mono (by omega)
          have eD := hS _ _ eD
          have hds := hds.go (Same.x hS)
          have hq6 := hq6.same hS
          clear hS
          have bT : Rb 1300 (sumQ (ds.map valQ)) := by
            rw [← eu]
            exact Rb.of hd1 bu bd
          walk_at "mf"
          refine ⟨q, D, vs, ds, rfl, hq6.trk, nD, .inl (seqU eD), hds, hok, ld, fun p7 H7 s7' n7 e7 => ?_⟩
          walk_at "mf"
          refine ⟨p7, u, d, _, 1300, rfl, tupU e7, hd1, eu.symm, bT, bu, bd, by decide, fun H8 s8' => ?_⟩
          have eD := s8' _ _ (s7' _ _ eD)
          have hds := (hds.go (Same.x s7')).go (Same.x s8')
          have hq6 := (hq6.same s7').same s8'
          walk_at "mf"
          refine g_tupOf (seqU eD) fun p9 H9 n9 s9' e9 => ?_
          have np9 := hq6.ne n9
          have eD := s9' _ _ eD
          have hds := hds.go (Same.x s9')
          have hq6 := hq6.same s9'
          walk_at "mf"
          refine ⟨q, p9, vs, ds, rfl, hq6.trk, np9, .inr (tupU e9), hds, hok, ld, fun p10 H10 s10' n10 e10 => ?_⟩
          have eD := s10' _ _ eD
          have hds := hds.go (Same.x s10')
          have hq6 := hq6.same s10'
          walk_at "mf"
          refine ⟨q, D, vs, ds, rfl, hq6.trk, nD, .inl (seqU eD), hds, hok, ld, fun p11 H11 s11' n11 e11 => ?_⟩
          have hq6 := hq6.same s11'
          refine g_neFF (tupU (s11' _ _ e10)) (tupU e11) ?_
          clear s7' s8' s9' s10' s11' e7 e9 e10 e11 n7 n9 n10 n11 np9 hds hok ld eD nD bT bu bd eu hd1 hv
          -- one, other, share
          walk_at "mf"
          refine ⟨q, t6, m, rfl, hq6, by omega, hm1, hm2, fun t12 H12 v1 x1 y1 sx12 hq12 l12 u12 hz1 hy1 bx1 by1 => ?_⟩
          obtain ⟨d1, hd1, f1, eu1, ev1⟩ := hz1.dq (K := K) (q := q) hq6.trk hy1 bx1 by1
          have b1 : Bt 140 (upD d1) := by rw [eu1]; exact bx1
          have b2 : Bt 140 (dnD d1) := by rw [ev1]; exact by1
          walk_at "mf"
          refine ⟨q, t12, m, rfl, hq12, by omega, hm1, hm2, fun t13 H13 v2 x2 y2 sx13 hq13 l13 u13 hz2 hy2 bx2 by2 => ?_⟩
          obtain ⟨d2, hd2, f2, eu2, ev2⟩ := hz2.dq (K := K) (q := q) hq12.trk hy2 bx2 by2
          have b3 : Bt 140 (upD d2) := by rw [eu2]; exact bx2
          have b4 : Bt 140 (dnD d2) := by rw [ev2]; exact by2
          have hd1 := hd1.go sx13
          clear hz1 hz2 bx1 by1 bx2 by2 hy1 hy2 eu1 ev1 eu2 ev2 sx12 sx13
          walk_at "mf"
          refine g_newT (by show 2 ≤ sizeLine; decide) fun p14 H14 n14 s14' e14 => ?_
          walk_at "mf"
          refine g_newT (by show 2 ≤ sizeLine; decide) fun p15 H15 n15 s15' e15 => ?_
          have np14 := hq13.ne n14
          have np15 := (hq13.same s14').ne n15
          have hq15 := (hq13.same s14').same s15'
          walk_at "mf"
          refine ⟨q, t13, 9, rfl, hq15, by omega, by decide, by decide, fun t16 H16 v3 x3 y3 sx16 hq16 l16 u16 hz3 hy3 bx3 by3 => ?_⟩
          obtain ⟨dz, hdz, fz, euz, evz⟩ := hz3.dq (K := K) (q := q) hq15.trk hy3 bx3 by3
          walk_at "mf"
          refine g_newL (by show 5 ≤ sizeLine; decide) fun p17 H17 n17 s17' e17 => ?_
          walk_at "mf"
          refine ⟨q, p17, t16, _, rfl, hq16.same s17', by omega, hq16.ne n17, .inl (seqU e17), by simp, by simp only [List.length_cons, List.length_nil]; decide, fun t18 H18 x18 sx18 hq l18 u18 m18 => ?_⟩
          have sxA : SameX q H15 H18 := (sx16.trans (Same.x s17')).trans sx18
          have hd1 := hd1.go (((Same.x s14').trans (Same.x s15')).trans sxA)
          have hd2 := hd2.go (((Same.x s14').trans (Same.x s15')).trans sxA)
          have b1o : Bt 140 1 := by show (1 : Int).natAbs < 2 ^ 140; omega
          have b2o : Bt 140 2 := by show (2 : Int).natAbs < 2 ^ 140; omega
          have b6o : Bt 140 6 := by show (6 : Int).natAbs < 2 ^ 140; omega
          have b0o : Bt 140 0 := by show (0 : Int).natAbs < 2 ^ 140; omega
          obtain ⟨d3, hd3, f3, b5, b6⟩ : ∃ d, Dq q K H18 x18 d ∧ isFrD d = true ∧ Bt 140 (upD d) ∧ Bt 140 (dnD d) := by
            simp only [List.mem_cons, List.not_mem_nil, or_false] at m18
            rcases m18 with rfl | rfl | rfl | rfl | rfl
            · exact ⟨.tuple [.int 1, .int 2], .tup np14 (tupU (sxA _ _ np14 (s15' _ _ e14))) (.cons (.int _) (.cons (.int _) .nil)), rfl, b1o, b2o⟩
            · exact ⟨.tuple [.int 2, .int 6], .tup np15 (tupU (sxA _ _ np15 e15)) (.cons (.int _) (.cons (.int _) .nil)), rfl, b2o, b6o⟩
            · exact ⟨.int 0, .int 0, rfl, b0o, b1o⟩
            · exact ⟨.int 1, .int 1, rfl, b1o, b1o⟩
            · exact ⟨dz, (hdz.go (Same.x s17')).go sx18, fz, by rw [euz]; exact bx3, by rw [evz]; exact by3⟩
          have y1 := fr_dn f1
          have y2 := fr_dn f2
          have y3 := fr_dn f3
          clear hdz fz euz evz hz3 hy3 bx3 by3 m18 e17 n17 s17' sx18 sx16 sxA e14 e15 n14 n15 s14' s15' hq15 hq13 hq16 np14 np15 hq6 hq12 b1o b2o b6o b0o
          walk_at "mf"
          refine ⟨q, v1, d1, rfl, hd1, f1, fun p20 H20 s20' n20 e20 => ?_⟩
          walk_at "mf"
          refine ⟨q, v2, d2, rfl, hd2.go (Same.x s20'), f2, fun p21 H21 s21' n21 e21 => ?_⟩
          walk_at "mf"
          refine ⟨q, x18, d3, rfl, (hd3.go (Same.x s20')).go (Same.x s21'), f3, fun p22 H22 s22' n22 e22 => ?_⟩
          walk_at "mf"
          refine g_newT (by show 3 ≤ sizeLine; decide) fun p23 H23 n23 s23' e23 => ?_
          refine g_tupG (tupU e23) rfl ?_
          walk_at "mf"
          refine g_tupG (tupU (s23' _ _ (s22' _ _ (s21' _ _ e20)))) rfl ?_
          walk_at "mf"
          refine g_tupG (tupU (s23' _ _ (s22' _ _ e21))) rfl ?_
          walk_at "mf"
          refine g_tupG (tupU (s23' _ _ e22)) rfl ?_
          have sA : Same H18 H23 := ((s20'.trans s21').trans s22').trans s23'
          have F1 := Fr.of (hd1.go (Same.x sA)) f1 b1 b2
          have F2 := Fr.of (hd2.go (Same.x sA)) f2 b3 b4
          have F3 := Fr.of (hd3.go (Same.x sA)) f3 b5 b6
          have hq := hq.same sA
          clear s20' s21' s22' s23' e20 e21 e22 e23 n20 n21 n22 n23 sA hd1 hd2 hd3
          walk_at "mf"
          refine ⟨q, v1, v2, x18, _, _, _, rfl, hq.trk, F1.mono (by decide), F2.mono (by decide), F3.mono (by decide), fun pT HT sT nT eT => ?_⟩
          have F1 := F1.go (Same.x sT)
          have F2 := F2.go (Same.x sT)
          have F3 := F3.go (Same.x sT)
          have hq := hq.same sT
          have bfe : Bt 141 (dnD d3 - upD d3) := b6.sub b5
          have w1 : Bt 281 ((dnD d3 - upD d3) * upD d1) := bfe.mul b1
          have w2 : Bt 421 ((dnD d3 - upD d3) * upD d1 * dnD d2) := w1.mul b4
          have w3 : Bt 280 (upD d3 * upD d2) := b5.mul b3
          have w4 : Bt 420 (upD d3 * upD d2 * dnD d1) := w3.mul b2
          have w5 : Bt 280 (dnD d3 * dnD d1) := b6.mul b2
          have w6 : Bt 420 (dnD d3 * dnD d1 * dnD d2) := w5.mul b4
          have wU := w2.add (w4.mono (by decide))
          have y31 : 1 ≤ dnD d3 * dnD d1 := Int.le_trans (by decide) (Int.mul_le_mul y3 y1 (by decide) (by omega))
          have yD : 1 ≤ dnD d3 * dnD d1 * dnD d2 := Int.le_trans (by decide) (Int.mul_le_mul y31 y2 (by decide) (by omega))
          walk_at "mf"
          refine g_mulU (bfe.cm b1 (by decide)) ?_
          walk_at "mf"
          refine g_mulU (w1.cm b4 (by decide)) ?_
          walk_at "mf"
          refine g_mulU (b5.cm b3 (by decide)) ?_
          walk_at "mf"
          refine g_mulU (w3.cm b2 (by decide)) ?_
          walk_at "mf"
          refine g_mulU (b6.cm b2 (by decide)) ?_
          walk_at "mf"
          refine g_mulU (w5.cm b4 (by decide)) ?_
          walk_at "mf"
          refine ⟨pT, _, _, _, 422, rfl, tupU eT, yD, mix_cross y1 y2 y3, ?_, wU, w6.mono (by decide), by decide, fun HU sU => ?_⟩
          · rw [show (1 - valQ d3) * valQ d1 + valQ d3 * valQ d2 = _ from mix_cross y1 y2 y3]
            exact Rb.of yD wU (w6.mono (by decide))
          have F1 := F1.go (Same.x sU)
          have F2 := F2.go (Same.x sU)
          have F3 := F3.go (Same.x sU)
          have hq := hq.same sU
          walk_at "mf"
          refine ⟨q, v1, v2, x18, _, _, _, rfl, hq.trk, F1.mono (by decide), F2.mono (by decide), F3.mono (by decide), fun pV HV sV nV eV => ?_⟩
          have F1 := F1.go (Same.x sV)
          have F2 := F2.go (Same.x sV)
          have hq := hq.same sV
          walk_at "mf"
          refine g_neFF (tupU eV) (tupU (sV _ _ (sU _ _ eT))) ?_
          clear F3 sT sU sV eT eV nT nV wU w1 w2 w3 w4 w5 w6 yD y31
          have b0o : Bt 1 0 := by show (0 : Int).natAbs < 2 ^ 1; decide
          have b1o : Bt 1 1 := by show (1 : Int).natAbs < 2 ^ 1; decide
          walk_at "mf"
          refine ⟨q, v1, v2, .int 0, valQ d1, valQ d2, 0, rfl, hq.trk, F1.mono (by decide), F2.mono (by decide), ?_, fun pW HW sW nW eW => ?_⟩
          · have z := Fr.int (q := q) (K := K) (H := HV) b0o (by decide)
            rw [zero1] at z
            exact z.mono (by decide)
          rw [show (1 - 0) * valQ d1 + 0 * valQ d2 = valQ d1 by grind] at eW
          have F1 := F1.go (Same.x sW)
          have F2 := F2.go (Same.x sW)
          have hq := hq.same sW
          walk_at "mf"
          refine ⟨q, v1, _, 140, rfl, F1, by decide, fun pX HX sX nX eX => ?_⟩
          have F1 := F1.go (Same.x sX)
          have F2 := F2.go (Same.x sX)
          have hq := hq.same sX
          refine g_neFF (tupU (sX _ _ eW)) (tupU eX) ?_
          walk_at "mf"
          refine ⟨q, v1, v2, .int 1, valQ d1, valQ d2, 1, rfl, hq.trk, F1.mono (by decide), F2.mono (by decide), ?_, fun pY HY sY nY eY => ?_⟩
          · have z := Fr.int (q := q) (K := K) (H := HX) b1o (by decide)
            rw [one1] at z
            exact z.mono (by decide)
          rw [show (1 - 1) * valQ d1 + 1 * valQ d2 = valQ d2 by grind] at eY
          have F1 := F1.go (Same.x sY)
          have F2 := F2.go (Same.x sY)
          have hq := hq.same sY
          walk_at "mf"
          refine ⟨q, v2, _, 140, rfl, F2, by decide, fun pZ HZ sZ nZ eZ => ?_⟩
          have F1 := F1.go (Same.x sZ)
          have F2 := F2.go (Same.x sZ)
          have hq := hq.same sZ
          refine g_neFF (tupU (sZ _ _ eY)) (tupU eZ) ?_
          clear sW sX sY sZ eW eX eY eZ nW nX nY nZ
          walk_at "mf"
          refine ⟨q, v1, _, 140, rfl, F1, by decide, fun Ha sa => ?_⟩
          have F2 := F2.go (Same.x sa)
          have hq := hq.same sa
          walk_at "mf"
          refine ⟨q, v2, _, 140, rfl, F2, by decide, fun Hb sb => ?_⟩
          have hq := hq.same sb
          rw [show sgn (valQ d1).num = sgn (upD d1) from sgn_div y1, show sgn (valQ d2).num = sgn (upD d2) from sgn_div y2]
          walk_at "mf"
          refine g_newL (by show 2 ≤ sizeLine; decide) fun pc Hc nc sc ec => ?_
          have hq := hq.same sc
          walk_at "mf"
          refine g_reprII (seqU ec) (sgn_b _) (sgn_b _) (by decide) ?_
          walk_at "mf"
          rw [sgn_eq, sgn_eq]
          refine g_newL (by show 2 ≤ sizeLine; decide) fun pd Hd nd sd ed => ?_
          have hq := hq.same sd
          walk_at "mf"
          refine g_reprII (seqU ed) (sgn_b _) (sgn_b _) (by decide) ?_
          walk_at "mf"
          exact ⟨⟨_, _, _, _, _, _, _, _, _, _, _, _, _, _, _, _, _, rfl⟩, t18, hq, by omega⟩
    · obtain ⟨⟨s2, s3, s4, s5, s6, s7, s8, s9, s10, s11, s12, s13, s14, s15, s16, s17, s18, rfl⟩, t, hq, ht⟩ := hP
      walk_at "mf"
      exact k _
end Mf
namespace Mf
open PySem PySem.Spec PyProof.Rows L2
local macro_rules | `(tactic| walk_at "mf1") => `(tactic| first
  | ((with_reducible apply g_var); exact rfl)
  | with_reducible first
    | refine g_c ?_ | refine g_op ?_ | refine g_un ?_ | refine g_cb ?_ | refine g_cl ?_ | refine g_clk ?_ | refine g_nil ?_ | refine g_cons ?_
    | refine g_tB ?_ | refine g_test ?_ | refine g_bl ?_ | refine g_and ?_ | refine g_or ?_ | refine g_not ?_ | refine g_andV ?_ | refine g_orV ?_ | refine g_notV ?_
    | refine g_if ?_ | refine g_ifS ?_ | refine g_seq ?_ | refine g_next ?_ | refine g_ret ?_ | refine g_drop ?_ | refine g_asg ?_ | refine g_name ?_ | refine g_sub ?_
    | refine g_int ?_ | refine g_intB ?_ | refine g_abs ?_ | refine g_I0 ?_ | refine g_addI ?_ | refine g_U ?_ | refine g_isNn ?_ | refine g_isNi ?_ | refine g_notN ?_ | refine g_notT1 ?_ | refine g_notT2 ?_ | refine g_notT3 ?_ | refine g_notT4 ?_ | refine g_notTb ?_ | refine g_notTi ?_ | refine g_eqI ?_ | refine g_neI ?_ | refine g_neSs ?_ | refine g_neS ?_ | refine g_eqS ?_
    | refine g_iteT ?_ | refine g_iteF ?_ | refine g_iteNT ?_ | refine g_iteNF ?_ | refine g_lst ?_ | refine g_tup ?_ | refine g_seqP ?_ | refine g_sl ?_ | refine g_noPart ?_ | refine g_part ?_ | refine g_yes ?_ | refine g_thenT ?_ | refine g_consG ?_ | refine g_nilG ?_ | refine g_ii ?_ | refine g_par ?_ | refine g_par3 ?_ | refine g_vv ?_ | refine g_vvv ?_ | refine g_reprB ?_ | refine g_lcL ?_ | refine g_lcR ?_
  | ((with_reducible refine g_mod ?_ ?_); (first | omega | decide))
  | ((with_reducible refine g_div ?_ ?_ ?_); (first | omega | decide); (first | assumption | decide))
  | ((with_reducible refine g_mulL ?_ ?_ ?_); (first | omega | decide); (first | omega | decide))
  | ((with_reducible refine g_mulR ?_ ?_ ?_); (first | omega | decide); (first | omega | decide))
  | ((with_reducible refine g_pow ?_ ?_ ?_ ?_); decide; decide; (first | omega | decide))
  | dsimp only)
local macro_rules | `(tactic| walk_at "mf1s") => `(tactic| first
  | ((with_reducible apply g_var); exact rfl)
  | with_reducible first
    | refine g_c ?_ | refine g_op ?_ | refine g_un ?_ | refine g_cb ?_ | refine g_cl ?_ | refine g_clk ?_ | refine g_nil ?_ | refine g_cons ?_
    | refine g_tB ?_ | refine g_test ?_ | refine g_bl ?_ | refine g_and ?_ | refine g_or ?_ | refine g_not ?_ | refine g_andV ?_ | refine g_orV ?_ | refine g_notV ?_
    | refine g_if ?_ | refine g_ifS ?_ | refine g_next ?_ | refine g_ret ?_ | refine g_drop ?_ | refine g_asg ?_ | refine g_name ?_ | refine g_sub ?_
    | refine g_int ?_ | refine g_intB ?_ | refine g_abs ?_ | refine g_I0 ?_ | refine g_addI ?_ | refine g_U ?_ | refine g_isNn ?_ | refine g_isNi ?_ | refine g_notN ?_ | refine g_notT1 ?_ | refine g_notT2 ?_ | refine g_notT3 ?_ | refine g_notT4 ?_ | refine g_notTb ?_ | refine g_notTi ?_ | refine g_eqI ?_ | refine g_neI ?_ | refine g_neSs ?_ | refine g_neS ?_ | refine g_eqS ?_
    | refine g_iteT ?_ | refine g_iteF ?_ | refine g_iteNT ?_ | refine g_iteNF ?_ | refine g_lst ?_ | refine g_tup ?_ | refine g_seqP ?_ | refine g_sl ?_ | refine g_noPart ?_ | refine g_part ?_ | refine g_yes ?_ | refine g_thenT ?_ | refine g_consG ?_ | refine g_nilG ?_ | refine g_ii ?_ | refine g_par ?_ | refine g_par3 ?_ | refine g_vv ?_ | refine g_vvv ?_ | refine g_reprB ?_ | refine g_lcL ?_ | refine g_lcR ?_
  | ((with_reducible refine g_mod ?_ ?_); (first | omega | decide))
  | ((with_reducible refine g_div ?_ ?_ ?_); (first | omega | decide); (first | assumption | decide))
  | ((with_reducible refine g_mulL ?_ ?_ ?_); (first | omega | decide); (first | omega | decide))
  | ((with_reducible refine g_mulR ?_ ?_ ?_); (first | omega | decide); (first | omega | decide))
  | ((with_reducible refine g_pow ?_ ?_ ?_ ?_); decide; decide; (first | omega | decide))
  | dsimp only)
local macro_rules | `(tactic| walk_at "mfs") => `(tactic| repeat walk_at "mf1s")
local macro_rules | `(tactic| walk_at "mf") => `(tactic| repeat walk_at "mf1")
local macro_rules | `(tactic| walk_at "ed") => `(tactic| repeat (first
  | with_reducible first
    | exact eds_nil | apply eds_cons | exact ed_int | exact ed_bl | exact ed_non | apply ed_neg
  | ((with_reducible apply ed_str); decide)
  | ((with_reducible apply ed_var); (exact rfl); (first | assumption | exact Dq.int _))
  | ((with_reducible apply ed_dict0); assumption)
  | ((with_reducible apply ed_dict2); assumption)
  | ((with_reducible apply ed_tup); assumption)
  | ((with_reducible apply ed_lst); assumption)
  | (with_reducible apply ed_pow)
  | (with_reducible apply ed_mul)
  | assumption
  | (exact Dq.int _)
  | (exact ⟨by decide, by decide, by decide⟩)
  | (show List.length _ ≤ 1000; simp only [List.length_cons, List.length_nil]; decide)))
theorem de_mk {P : Program} {w : World} {K : PySem.W.Frag} {h b : Heap} {mg : Str → Option Value} {x : Str} {st : Stmt} {f : Addr} {od an : Option Addr} {sl : Array (Option Value)} {oc kV dc pm cd ct : Value} (X : K.In h) (G : h.Ns mainGlobals mg)
    (a : PySem.W.nsIn K mainGlobals x = some (some (.ref f))) (l : K.lookup f = some ⟨oc, od, .func (PySem.W.fnOf x x (defArgs st) (defBody st) (defScope st) .none kV dc pm an cd ct), sl⟩)
    (c : PySem.W.codeIn K cd x = true) (k : PySem.W.keepIn K (.ref f) = true) : De ⟨P, w, K, mg, b⟩ x st := ⟨f, _, PySem.W.mg_of X G a, fun_mk l c k⟩
theorem end_mk {P : Program} {w : World} {K : PySem.W.Frag} {h : Heap} {mg : Str → Option Value} {fa : Addr} (hmg : mg "law" = some (.ref fa)) (T : ∀ base : Heap, Tx ⟨P, w, K, mg, base⟩) :
    ∃ fd : FuncData, (∀ (s : Shared) (u : Value), BindsTo s fd ⟨[u], []⟩ [("script", u)]) ∧ ∀ base : Heap, K.In base → base.Ns mainGlobals mg → FnG P w K mg base CX0 7 fa fd ["script"] (sp_law K) := by
  obtain ⟨f, fd, hm, F⟩ := (T h).d_law.ex
  have e : f = fa := by
    have e := hm.symm.trans hmg
    cases e
    rfl
  subst e
  refine ⟨fd, fun s u => ?_, fun base _ _ => ?_⟩
  · obtain ⟨oc, od, kV, doc, pm, an, cdv, ct, osl, rfl, lk, hcd⟩ := F.ex
    exact .of_eq (pl_law kV doc pm an cdv ct [u] rfl)
  · obtain ⟨f2, fd2, F2, hm2, W2⟩ := (ok_law ⟨P, w, K, mg, base⟩ (T base)).ex
    have e2 : f2 = f := by
      have e := hm2.symm.trans hm
      cases e
      rfl
    subst e2
    obtain ⟨oc, od, kV, doc, pm, an, cdv, ct, osl, rfl, lk, hcd⟩ := F.ex
    obtain ⟨oc', od', kV', doc', pm', an', cdv', ct', osl', rfl, lk', hcd'⟩ := W2.ex
    rw [lk] at lk'
    cases lk'
    exact F2
theorem all_mk {P : Program} {w : World} {K : PySem.W.Frag} {h : Heap} {mg : Str → Option Value} {fa : Addr} (X : K.In h) (G : h.Ns mainGlobals mg) (hmg : mg "law" = some (.ref fa))
    {f0 f1 f2 f3 f4 f5 f6 f7 f8 f9 f10 f11 f12 f13 f14 f15 f16 f17 f18 f19 : Addr} {od0 an0 od1 an1 od2 an2 od3 an3 od4 an4 od5 an5 od6 an6 od7 an7 od8 an8 od9 an9 od10 an10 od11 an11 od12 an12 od13 an13 od14 an14 od15 an15 od16 an16 od17 an17 od18 an18 od19 an19 : Option Addr} {sl0 sl1 sl2 sl3 sl4 sl5 sl6 sl7 sl8 sl9 sl10 sl11 sl12 sl13 sl14 sl15 sl16 sl17 sl18 sl19 : Array (Option Value)} {oc0 kV0 dc0 pm0 cd0 ct0 oc1 kV1 dc1 pm1 cd1 ct1 oc2 kV2 dc2 pm2 cd2 ct2 oc3 kV3 dc3 pm3 cd3 ct3 oc4 kV4 dc4 pm4 cd4 ct4 oc5 kV5 dc5 pm5 cd5 ct5 oc6 kV6 dc6 pm6 cd6 ct6 oc7 kV7 dc7 pm7 cd7 ct7 oc8 kV8 dc8 pm8 cd8 ct8 oc9 kV9 dc9 pm9 cd9 ct9 oc10 kV10 dc10 pm10 cd10 ct10 oc11 kV11 dc11 pm11 cd11 ct11 oc12 kV12 dc12 pm12 cd12 ct12 oc13 kV13 dc13 pm13 cd13 ct13 oc14 kV14 dc14 pm14 cd14 ct14 oc15 kV15 dc15 pm15 cd15 ct15 oc16 kV16 dc16 pm16 cd16 ct16 oc17 kV17 dc17 pm17 cd17 ct17 oc18 kV18 dc18 pm18 cd18 ct18 oc19 kV19 dc19 pm19 cd19 ct19 : Value}
    (a0 : PySem.W.nsIn K mainGlobals "is_integer" = some (some (.ref f0))) (l0 : K.lookup f0 = some ⟨oc0, od0, .func (PySem.W.fnOf "is_integer" "is_integer" (defArgs s_is_integer) (defBody s_is_integer) (defScope s_is_integer) .none kV0 dc0 pm0 an0 cd0 ct0), sl0⟩) (c0 : PySem.W.codeIn K cd0 "is_integer" = true) (k0 : PySem.W.keepIn K (.ref f0) = true)
    (a1 : PySem.W.nsIn K mainGlobals "is_within" = some (some (.ref f1))) (l1 : K.lookup f1 = some ⟨oc1, od1, .func (PySem.W.fnOf "is_within" "is_within" (defArgs s_is_within) (defBody s_is_within) (defScope s_is_within) .none kV1 dc1 pm1 an1 cd1 ct1), sl1⟩) (c1 : PySem.W.codeIn K cd1 "is_within" = true) (k1 : PySem.W.keepIn K (.ref f1) = true)
    (a2 : PySem.W.nsIn K mainGlobals "is_list" = some (some (.ref f2))) (l2 : K.lookup f2 = some ⟨oc2, od2, .func (PySem.W.fnOf "is_list" "is_list" (defArgs s_is_list) (defBody s_is_list) (defScope s_is_list) .none kV2 dc2 pm2 an2 cd2 ct2), sl2⟩) (c2 : PySem.W.codeIn K cd2 "is_list" = true) (k2 : PySem.W.keepIn K (.ref f2) = true)
    (a3 : PySem.W.nsIn K mainGlobals "is_fraction" = some (some (.ref f3))) (l3 : K.lookup f3 = some ⟨oc3, od3, .func (PySem.W.fnOf "is_fraction" "is_fraction" (defArgs s_is_fraction) (defBody s_is_fraction) (defScope s_is_fraction) .none kV3 dc3 pm3 an3 cd3 ct3), sl3⟩) (c3 : PySem.W.codeIn K cd3 "is_fraction" = true) (k3 : PySem.W.keepIn K (.ref f3) = true)
    (a4 : PySem.W.nsIn K mainGlobals "reduced" = some (some (.ref f4))) (l4 : K.lookup f4 = some ⟨oc4, od4, .func (PySem.W.fnOf "reduced" "reduced" (defArgs s_reduced) (defBody s_reduced) (defScope s_reduced) .none kV4 dc4 pm4 an4 cd4 ct4), sl4⟩) (c4 : PySem.W.codeIn K cd4 "reduced" = true) (k4 : PySem.W.keepIn K (.ref f4) = true)
    (a5 : PySem.W.nsIn K mainGlobals "read_fraction" = some (some (.ref f5))) (l5 : K.lookup f5 = some ⟨oc5, od5, .func (PySem.W.fnOf "read_fraction" "read_fraction" (defArgs s_read_fraction) (defBody s_read_fraction) (defScope s_read_fraction) .none kV5 dc5 pm5 an5 cd5 ct5), sl5⟩) (c5 : PySem.W.codeIn K cd5 "read_fraction" = true) (k5 : PySem.W.keepIn K (.ref f5) = true)
    (a6 : PySem.W.nsIn K mainGlobals "fraction_of" = some (some (.ref f6))) (l6 : K.lookup f6 = some ⟨oc6, od6, .func (PySem.W.fnOf "fraction_of" "fraction_of" (defArgs s_fraction_of) (defBody s_fraction_of) (defScope s_fraction_of) .none kV6 dc6 pm6 an6 cd6 ct6), sl6⟩) (c6 : PySem.W.codeIn K cd6 "fraction_of" = true) (k6 : PySem.W.keepIn K (.ref f6) = true)
    (a7 : PySem.W.nsIn K mainGlobals "added" = some (some (.ref f7))) (l7 : K.lookup f7 = some ⟨oc7, od7, .func (PySem.W.fnOf "added" "added" (defArgs s_added) (defBody s_added) (defScope s_added) .none kV7 dc7 pm7 an7 cd7 ct7), sl7⟩) (c7 : PySem.W.codeIn K cd7 "added" = true) (k7 : PySem.W.keepIn K (.ref f7) = true)
    (a8 : PySem.W.nsIn K mainGlobals "taken" = some (some (.ref f8))) (l8 : K.lookup f8 = some ⟨oc8, od8, .func (PySem.W.fnOf "taken" "taken" (defArgs s_taken) (defBody s_taken) (defScope s_taken) .none kV8 dc8 pm8 an8 cd8 ct8), sl8⟩) (c8 : PySem.W.codeIn K cd8 "taken" = true) (k8 : PySem.W.keepIn K (.ref f8) = true)
    (a9 : PySem.W.nsIn K mainGlobals "multiplied" = some (some (.ref f9))) (l9 : K.lookup f9 = some ⟨oc9, od9, .func (PySem.W.fnOf "multiplied" "multiplied" (defArgs s_multiplied) (defBody s_multiplied) (defScope s_multiplied) .none kV9 dc9 pm9 an9 cd9 ct9), sl9⟩) (c9 : PySem.W.codeIn K cd9 "multiplied" = true) (k9 : PySem.W.keepIn K (.ref f9) = true)
    (a10 : PySem.W.nsIn K mainGlobals "sum_of" = some (some (.ref f10))) (l10 : K.lookup f10 = some ⟨oc10, od10, .func (PySem.W.fnOf "sum_of" "sum_of" (defArgs s_sum_of) (defBody s_sum_of) (defScope s_sum_of) .none kV10 dc10 pm10 an10 cd10 ct10), sl10⟩) (c10 : PySem.W.codeIn K cd10 "sum_of" = true) (k10 : PySem.W.keepIn K (.ref f10) = true)
    (a11 : PySem.W.nsIn K mainGlobals "mixed" = some (some (.ref f11))) (l11 : K.lookup f11 = some ⟨oc11, od11, .func (PySem.W.fnOf "mixed" "mixed" (defArgs s_mixed) (defBody s_mixed) (defScope s_mixed) .none kV11 dc11 pm11 an11 cd11 ct11), sl11⟩) (c11 : PySem.W.codeIn K cd11 "mixed" = true) (k11 : PySem.W.keepIn K (.ref f11) = true)
    (a12 : PySem.W.nsIn K mainGlobals "sign_of" = some (some (.ref f12))) (l12 : K.lookup f12 = some ⟨oc12, od12, .func (PySem.W.fnOf "sign_of" "sign_of" (defArgs s_sign_of) (defBody s_sign_of) (defScope s_sign_of) .none kV12 dc12 pm12 an12 cd12 ct12), sl12⟩) (c12 : PySem.W.codeIn K cd12 "sign_of" = true) (k12 : PySem.W.keepIn K (.ref f12) = true)
    (a13 : PySem.W.nsIn K mainGlobals "_law_quay" = some (some (.ref f13))) (l13 : K.lookup f13 = some ⟨oc13, od13, .func (PySem.W.fnOf "_law_quay" "_law_quay" (defArgs s__law_quay) (defBody s__law_quay) (defScope s__law_quay) .none kV13 dc13 pm13 an13 cd13 ct13), sl13⟩) (c13 : PySem.W.codeIn K cd13 "_law_quay" = true) (k13 : PySem.W.keepIn K (.ref f13) = true)
    (a14 : PySem.W.nsIn K mainGlobals "_law_moor" = some (some (.ref f14))) (l14 : K.lookup f14 = some ⟨oc14, od14, .func (PySem.W.fnOf "_law_moor" "_law_moor" (defArgs s__law_moor) (defBody s__law_moor) (defScope s__law_moor) .none kV14 dc14 pm14 an14 cd14 ct14), sl14⟩) (c14 : PySem.W.codeIn K cd14 "_law_moor" = true) (k14 : PySem.W.keepIn K (.ref f14) = true)
    (a15 : PySem.W.nsIn K mainGlobals "_law_pick" = some (some (.ref f15))) (l15 : K.lookup f15 = some ⟨oc15, od15, .func (PySem.W.fnOf "_law_pick" "_law_pick" (defArgs s__law_pick) (defBody s__law_pick) (defScope s__law_pick) .none kV15 dc15 pm15 an15 cd15 ct15), sl15⟩) (c15 : PySem.W.codeIn K cd15 "_law_pick" = true) (k15 : PySem.W.keepIn K (.ref f15) = true)
    (a16 : PySem.W.nsIn K mainGlobals "_law_fraction" = some (some (.ref f16))) (l16 : K.lookup f16 = some ⟨oc16, od16, .func (PySem.W.fnOf "_law_fraction" "_law_fraction" (defArgs s__law_fraction) (defBody s__law_fraction) (defScope s__law_fraction) .none kV16 dc16 pm16 an16 cd16 ct16), sl16⟩) (c16 : PySem.W.codeIn K cd16 "_law_fraction" = true) (k16 : PySem.W.keepIn K (.ref f16) = true)
    (a17 : PySem.W.nsIn K mainGlobals "_law_pair" = some (some (.ref f17))) (l17 : K.lookup f17 = some ⟨oc17, od17, .func (PySem.W.fnOf "_law_pair" "_law_pair" (defArgs s__law_pair) (defBody s__law_pair) (defScope s__law_pair) .none kV17 dc17 pm17 an17 cd17 ct17), sl17⟩) (c17 : PySem.W.codeIn K cd17 "_law_pair" = true) (k17 : PySem.W.keepIn K (.ref f17) = true)
    (a18 : PySem.W.nsIn K mainGlobals "_law_is" = some (some (.ref f18))) (l18 : K.lookup f18 = some ⟨oc18, od18, .func (PySem.W.fnOf "_law_is" "_law_is" (defArgs s__law_is) (defBody s__law_is) (defScope s__law_is) .none kV18 dc18 pm18 an18 cd18 ct18), sl18⟩) (c18 : PySem.W.codeIn K cd18 "_law_is" = true) (k18 : PySem.W.keepIn K (.ref f18) = true)
    (a19 : PySem.W.nsIn K mainGlobals "law" = some (some (.ref f19))) (l19 : K.lookup f19 = some ⟨oc19, od19, .func (PySem.W.fnOf "law" "law" (defArgs s_law) (defBody s_law) (defScope s_law) .none kV19 dc19 pm19 an19 cd19 ct19), sl19⟩) (c19 : PySem.W.codeIn K cd19 "law" = true) (k19 : PySem.W.keepIn K (.ref f19) = true)
    (z0 : PySem.W.nsIn K mainGlobals "abs" = some none)
    (z1 : PySem.W.nsIn K mainGlobals "all" = some none)
    (z2 : PySem.W.nsIn K mainGlobals "bool" = some none)
    (z3 : PySem.W.nsIn K mainGlobals "int" = some none)
    (z4 : PySem.W.nsIn K mainGlobals "isinstance" = some none)
    (z5 : PySem.W.nsIn K mainGlobals "len" = some none)
    (z6 : PySem.W.nsIn K mainGlobals "list" = some none)
    (z7 : PySem.W.nsIn K mainGlobals "range" = some none)
    (z8 : PySem.W.nsIn K mainGlobals "repr" = some none)
    (z9 : PySem.W.nsIn K mainGlobals "tuple" = some none)
    (m0 : PySem.W.nsIn K mainGlobals "gcd" = some (some (.builtin "math.gcd")))
    : ∃ fd : FuncData, (∀ (s : Shared) (u : Value), BindsTo s fd ⟨[u], []⟩ [("script", u)]) ∧ ∀ base : Heap, K.In base → base.Ns mainGlobals mg → FnG P w K mg base CX0 7 fa fd ["script"] (sp_law K) :=
  end_mk (h := h) hmg fun base => { d_is_integer := de_mk X G a0 l0 c0 k0, d_is_within := de_mk X G a1 l1 c1 k1, d_is_list := de_mk X G a2 l2 c2 k2, d_is_fraction := de_mk X G a3 l3 c3 k3, d_reduced := de_mk X G a4 l4 c4 k4, d_read_fraction := de_mk X G a5 l5 c5 k5, d_fraction_of := de_mk X G a6 l6 c6 k6, d_added := de_mk X G a7 l7 c7 k7, d_taken := de_mk X G a8 l8 c8 k8, d_multiplied := de_mk X G a9 l9 c9 k9, d_sum_of := de_mk X G a10 l10 c10 k10, d_mixed := de_mk X G a11 l11 c11 k11, d_sign_of := de_mk X G a12 l12 c12 k12, d__law_quay := de_mk X G a13 l13 c13 k13, d__law_moor := de_mk X G a14 l14 c14 k14, d__law_pick := de_mk X G a15 l15 c15 k15, d__law_fraction := de_mk X G a16 l16 c16 k16, d__law_pair := de_mk X G a17 l17 c17 k17, d__law_is := de_mk X G a18 l18 c18 k18, d_law := de_mk X G a19 l19 c19 k19, n_abs := PySem.W.mg_none_of X G z0, n_all := PySem.W.mg_none_of X G z1, n_bool := PySem.W.mg_none_of X G z2, n_int := PySem.W.mg_none_of X G z3, n_isinstance := PySem.W.mg_none_of X G z4, n_len := PySem.W.mg_none_of X G z5, n_list := PySem.W.mg_none_of X G z6, n_range := PySem.W.mg_none_of X G z7, n_repr := PySem.W.mg_none_of X G z8, n_tuple := PySem.W.mg_none_of X G z9, m_gcd := PySem.W.mg_of X G m0 }
end Mf
open PySem PySem.W PyProof.Rows
set_option maxHeartbeats 0 in
theorem PySem.Challenge.cw_mapflow_k04_sums_and_mixtures_holds : PySem.Challenge.rw_mapflow_k04_sums_and_mixtures.Holds := by
  w_on; o_law; k_head; (case hw => w_witness2)
  k_fill
  refine Mf.walkG (l := PySem.Challenge.rw_mapflow_k04_sums_and_mixtures) (n := 63) (k := 7) (x := "script") (sp := Mf.sp_law) rfl (by decide) rfl ⟨rfl, by decide, by decide⟩ (fun w h Y => PySem.W.kIn_of Y) ?F (fun K H a ns hl _ hS => ⟨a, ns, rfl, hS, hl, fun _ => rfl⟩)
  case F =>
    intro w mg fa h KX G hmg
    refine' Mf.all_mk KX G hmg ?a0 ?l0 ?c0 ?k0 ?a1 ?l1 ?c1 ?k1 ?a2 ?l2 ?c2 ?k2 ?a3 ?l3 ?c3 ?k3 ?a4 ?l4 ?c4 ?k4 ?a5 ?l5 ?c5 ?k5 ?a6 ?l6 ?c6 ?k6 ?a7 ?l7 ?c7 ?k7 ?a8 ?l8 ?c8 ?k8 ?a9 ?l9 ?c9 ?k9 ?a10 ?l10 ?c10 ?k10 ?a11 ?l11 ?c11 ?k11 ?a12 ?l12 ?c12 ?k12 ?a13 ?l13 ?c13 ?k13 ?a14 ?l14 ?c14 ?k14 ?a15 ?l15 ?c15 ?k15 ?a16 ?l16 ?c16 ?k16 ?a17 ?l17 ?c17 ?k17 ?a18 ?l18 ?c18 ?k18 ?a19 ?l19 ?c19 ?k19 ?z0 ?z1 ?z2 ?z3 ?z4 ?z5 ?z6 ?z7 ?z8 ?z9 ?m0
    (case a0 => k_is); (case l0 => k_is); (case c0 => k_is); (case k0 => k_is); (case a1 => k_is); (case l1 => k_is); (case c1 => k_is); (case k1 => k_is); (case a2 => k_is); (case l2 => k_is); (case c2 => k_is); (case k2 => k_is); (case a3 => k_is); (case l3 => k_is); (case c3 => k_is); (case k3 => k_is); (case a4 => k_is); (case l4 => k_is); (case c4 => k_is); (case k4 => k_is); (case a5 => k_is); (case l5 => k_is); (case c5 => k_is); (case k5 => k_is); (case a6 => k_is); (case l6 => k_is); (case c6 => k_is); (case k6 => k_is); (case a7 => k_is); (case l7 => k_is); (case c7 => k_is); (case k7 => k_is); (case a8 => k_is); (case l8 => k_is); (case c8 => k_is); (case k8 => k_is); (case a9 => k_is); (case l9 => k_is); (case c9 => k_is); (case k9 => k_is); (case a10 => k_is); (case l10 => k_is); (case c10 => k_is); (case k10 => k_is); (case a11 => k_is); (case l11 => k_is); (case c11 => k_is); (case k11 => k_is); (case a12 => k_is); (case l12 => k_is); (case c12 => k_is); (case k12 => k_is); (case a13 => k_is); (case l13 => k_is); (case c13 => k_is); (case k13 => k_is); (case a14 => k_is); (case l14 => k_is); (case c14 => k_is); (case k14 => k_is); (case a15 => k_is); (case l15 => k_is); (case c15 => k_is); (case k15 => k_is); (case a16 => k_is); (case l16 => k_is); (case c16 => k_is); (case k16 => k_is); (case a17 => k_is); (case l17 => k_is); (case c17 => k_is); (case k17 => k_is); (case a18 => k_is); (case l18 => k_is); (case c18 => k_is); (case k18 => k_is); (case a19 => k_is); (case l19 => k_is); (case c19 => k_is); (case k19 => k_is); (case z0 => k_is); (case z1 => k_is); (case z2 => k_is); (case z3 => k_is); (case z4 => k_is); (case z5 => k_is); (case z6 => k_is); (case z7 => k_is); (case z8 => k_is); (case z9 => k_is); (case m0 => k_is)
