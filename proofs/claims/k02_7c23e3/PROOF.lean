import PyProof.Rows.All
import Wide.All
import OpenK.AllK
import Wide.FinOn
import HandS.ForMost
import HandS.ForExc
import HandS.IsInst
import HandS.Wide
import HandS.Gcd
import HandS.Flow
import HandS.Style
import PyProof.ReprRoads
import PySem.Challenge.RW_mapflow_k02_what_any_value_is
set_option Elab.async false
set_option linter.all false
set_option maxRecDepth 100000
set_option maxHeartbeats 4000000
namespace Mf
open PySem PySem.Spec PyProof.Rows L2

/-! ### a def that is run where nothing is being shown (the guards are known to be none) -/
structure FnG (P : Program) (w : World) (K : PySem.W.Frag) (mg : Str → Option Value) (base : Heap) (CX : CXT) (k : Nat) (f : Addr) (fd : FuncData) (ps : List Str) (sp : Sp) : Prop where
  size : ∀ vs H Q E, sp vs H Q E → vs.length = ps.length
  go : ∀ (A : Around), A.guards = some [] → ∀ (outer : List Env) (s : Shared) (H : Hp) (args : Args) (us : List Value) (vs : List V) (Q : VK) (E : XK),
    Room k A → Env0 P w K mg base A outer s H → BindsTo s fd args (ps.zip us) → Vals vs us → sp vs H Q E →
      codeAny (model P w) A (.call (.ref f) args) (CR CX outer P w H s Q E) s

section
variable {P : Program} {w : World} {K : PySem.W.Frag} {mg : Str → Option Value} {base : Heap}

theorem FnG.of {CX : CXT} {k : Nat} {f : Addr} {fd : FuncData} {ps : List Str} {sp : Sp} (F : FnOk P w K mg base CX k f fd ps sp) : FnG P w K mg base CX k f fd ps sp :=
  ⟨F.len, fun A _ outer s H args us vs Q E => F.run A outer s H args us vs Q E⟩

/-- a def of the text, by its body, where the guards are known -/
theorem okG {x qual : Str} {st : Stmt} {f : Addr} {fd : FuncData} {N ps : List Str} {k : Nat} {sp : Sp} (F : Fun K x qual st f fd) (S : FnScope N ps (defScope st))
    (len : ∀ vs H Q E, sp vs H Q E → vs.length = ps.length)
    (hbody : ∀ (cdv : Value) (A : Around) (outer : List Env) (s : Shared) (H : Hp) (vs : List V) (Q : VK) (E : XK),
      (A.deeper (envOfC qual (defScope st) s.heap.objs.size f cdv)).guards = some [] →
      Room k (A.deeper (envOfC qual (defScope st) s.heap.objs.size f cdv)) → sp vs H Q E →
      ∃ t, PSs (cxOf CX0 P w K mg base N qual (defScope st) f cdv A outer s H E).nox (defBody st) t ∧
        t { nx := fun _ H' => Q .non H', rt := Q } (start N vs) H) :
    FnG P w K mg base CX0 (k + 1) f fd ps sp := by
  obtain ⟨oc, od, kV, doc, pm, an, cdv, ct, osl, rfl, lk, hcd⟩ := F.ex
  refine ⟨len, ?_⟩
  intro A hA outer s H args us vs Q E hr e0 hb r hsp
  have KX : K.In s.heap := e0.mod.kin.keeps fun b o e => (e0.bs b o e).1
  have lim : s.heap.NoLimit := e0.mod.nolimit.keeps fun b o e => (e0.bs b o e).1
  have hl := len _ _ _ _ hsp
  have kinds : ∀ y ∈ ps.zip us, (defScope st).names.lookup y.1 = some .local ∨
      ((defScope st).names.lookup y.1 = some .cell ∧ ((cellsFrom (s.heap.objs.size + 1) (defScope st).names []).lookup y.1).isSome = true) := by
    intro y hy
    obtain ⟨n, v⟩ := y
    cases S.par n (List.of_mem_zip hy).1 with
    | inl q => exact Or.inl q
    | inr q => exact Or.inr ⟨q, PySem.W.cellsFrom_some _ _ _ (.inl q)⟩
  refine codeAny_call_function hr.depth (KX _ _ lk) rfl S.co S.gen rfl (PySem.W.codeRec_of KX hcd) (hb _ _ _ _ ?_)
  refine wpAny_newFunctionEnv_cells S.kind kinds ?_
  intro env he s1 x
  subst he
  refine ⟨lim.keeps x.toInCall.keep, codeAny_func ?_⟩
  have hAg : (A.deeper (envOfC qual (defScope st) s.heap.objs.size f cdv)).guards = some [] := hA
  obtain ⟨t, ht, hq⟩ := hbody cdv A outer s H vs Q E hAg (hr.deeper _) hsp
  have I := inv_start (CX := CX0) (mg := mg) (base := base) (N := N) (qual := qual) (f := f) (cd := cdv) (E := E) S hr.hd e0 hl r x
  refine wpAny_mono (ht.nox.run [] s1 (start N vs) H _ I hq) ?_ (fun e s' hs => hs)
  intro fl s' hs
  cases fl with
  | ret u =>
    obtain ⟨v, σ', H', J, rv, q⟩ := hs
    exact ⟨v, H', J.os, J.bare, J.base, J.hok, rv, q⟩
  | next =>
    obtain ⟨σ', H', J, q⟩ := hs
    exact ⟨V.non, H', J.os, J.bare, J.base, J.hok, (rfl : Value.none = Value.none), q⟩
  | brk => obtain ⟨_, _, _, q⟩ := hs; exact False.elim q
  | cont => obtain ⟨_, _, _, q⟩ := hs; exact False.elim q
end

section
variable {X : Cx} {CX : CXT} {k : Nat} {f C : Addr} {fd : FuncData} {ps : List Str} {sp : Sp} {E : XK} {x : Str} {p pos : Pos} {e : Expr} {es : List Expr} {t : TA}
theorem run_fnG {pins : List (Addr × Obj)} {σ : L2.St} {H : Hp} {s : Shared} {Q : VK} {us : List Value} {vs : List V} (F : FnG X.prog X.w X.K X.mg X.base CX k f fd ps sp)
    (hA : X.A.guards = some []) (hr : Room k X.A) (hb : Binds X.K fd ps []) (hx : Passes CX X E)
    (I : Inv X pins σ H s) (r : Vals vs us) (h : sp vs H Q E) : wpAny (model X.prog X.w) X.A (call (.ref f) us) (EP X pins σ Q) X.xe s := by
  have hl : (us ++ []).length = ps.length := by
    rw [List.append_nil, ← r.length]
    exact F.size _ _ _ _ h
  have hb' := hb s us I.kIn hl
  rw [List.append_nil] at hb'
  refine wpAny_call (codeAny_mono (F.go X.A hA X.stack s H ⟨us, []⟩ us vs Q E hr I.env0 hb' r h) ?_)
  intro r s' hq
  cases r with
  | error e => exact hx pins σ H s e s' I hq
  | ok fl => cases fl with
    | ret u => exact I.after hq
    | next => exact hq.elim
    | brk => exact hq.elim
    | cont => exact hq.elim
/-- f(e, ..) where the guards are known -/
theorem pe_callG (F : FnG X.prog X.w X.K X.mg X.base CX k f fd ps sp) (hA : X.A.guards = some []) (hr : Room k X.A) (hg : Gl X x) (hm : X.mg x = some (.ref f))
    (hk : PySem.W.keepIn X.K (.ref f) = true) (hb : Binds X.K fd ps []) (hx : Passes CX X E)
    (ha : PA X (e :: es) t) (hdb : (x == ("__debug__" : Str)) = false := by decide) (he : starEach (e :: es) X.env = (false, eval e X.env) :: starEach es X.env := by rfl)
    (hpl : (backTo pos (starEach es X.env)).any (·.1) = false := by rfl) :
    PE X (.Call (.Name x p) (e :: es) [] pos) (fun σ H Q => t σ H fun vs H1 => sp vs H1 Q E) := by
  refine ⟨fun pins s σ H Q I h => wpAny_Call_Name_kw (ld_glob I hg hm ?_ hdb)⟩
  refine PySem.W.callWith_K (h₀ := X.base) I.ok.mod.kin hk (thn (ha.run pos pins s σ H _ I h) ?_) he hpl
  intro us s1 ⟨vs, H1, I1, r, q⟩
  exact ⟨I1.kIn, run_fnG F hA hr hb hx I1 r q⟩
end

/-! ### the law's call, where its def is an FnG -/
theorem law_callG {P : Program} {w : World} {K : PySem.W.Frag} {mg mb : Str → Option Value} {k : Nat} {fa a : Addr} {fd : FuncData} {x : Str} {sp : Sp} {s₁ : Shared} {vs : List Value} {ns : List Int}
    (KX : K.In s₁.heap) (hns : s₁.heap.Ns mainGlobals mg) (hb : s₁.heap.Ns builtinsNs mb) (hbb : ∀ x : Str, x ≠ "__name__" → mb x = bootBuiltins x)
    (hlim : s₁.heap.NoLimit) (hg : s₁.gens = #[])
    (ha : s₁.heap.get? a = some { cls := .type "list", data := .seq vs.toArray }) (hi : IntsAre vs ns) (hl : ns.length ≤ sizeLine) (hr : Room k callerA)
    (F : ∀ base : Heap, K.In base → base.Ns mainGlobals mg → FnG P w K mg base CX0 k fa fd [x] sp)
    (hbind : ∀ (s : Shared) (u : Value), BindsTo s fd ⟨[u], []⟩ [(x, u)])
    (hsp : ∀ H : Hp, Only H → SqL K H a (ns.map V.int) → sp [.ref a] H (fun v _ => v = .bl true) fun _ _ _ => False) :
    codeAny (model P w) callerA (.call (.ref fa) ⟨[.ref a], []⟩)
      (fun r s' => r = .ok (.ret (.bool true)) ∧ OldK s₁.heap s'.heap ∧ s'.os = s₁.os ∧ AllBare s'.gens) s₁ := by
  have rv := vals_ints hi
  have lenV := hi.length
  have main : ∀ H : Hp, Only H → SqL K H a (ns.map V.int) → HOk P w H s₁.heap → (∀ b, H b ≠ none → b = a) → (H a ≠ none → K.lookup a = none) →
      codeAny (model P w) callerA (.call (.ref fa) ⟨[.ref a], []⟩)
        (fun r s' => r = .ok (.ret (.bool true)) ∧ OldK s₁.heap s'.heap ∧ s'.os = s₁.os ∧ AllBare s'.gens) s₁ := by
    intro H hO hS hok hA hK
    have unt : ∀ {b : Addr} {o : Obj}, s₁.heap.get? b = some o → (b = a → False) → H b = none := by
      intro b o e ne
      cases q : H b with
      | none => rfl
      | some u => exact (ne (hA b (by rw [q]; exact Option.some_ne_none _))).elim
    have nsK : ∀ {b : Addr} {m : Str → Option Value}, s₁.heap.Ns b m → (hidT s₁.heap H).Ns b m := by
      intro b m h
      obtain ⟨o, es, ep, e, d, r⟩ := h
      refine ⟨o, es, ep, hidT_get e (unt e fun z => ?_), d, r⟩
      subst z
      rw [ha] at e
      cases e
      cases d
    have hKb : K.In (hidT s₁.heap H) := by
      intro b o e
      refine hidT_get (KX b o e) ?_
      cases q : H b with
      | none => rfl
      | some u =>
        have nb : H b ≠ none := by
          rw [q]
          exact Option.some_ne_none _
        have z := hA b nb
        subst z
        rw [hK nb] at e
        cases e
    have hM : Mod K mg (hidT s₁.heap H) := by
      refine ⟨hKb, nsK hns, ⟨mb, nsK hb, hbb⟩, ?_⟩
      obtain ⟨mc, h1, h2⟩ := hlim
      exact ⟨mc, nsK h1, h2⟩
    have e0 : Env0 P w K mg (hidT s₁.heap H) callerA [] s₁ H :=
      { frames := rfl, mod := hM, bs := fun b o e => of_hidT e, bsz := Nat.le_of_eq (hidT_size _ _), funs := trivial,
        frf := fun b hb => absurd hb List.not_mem_nil, hok := hok, bare := .of_eq hg }
    have run := (F _ hKb (nsK hns)).go callerA rfl [] s₁ H ⟨[.ref a], []⟩ [.ref a] [.ref a] (fun v _ => v = .bl true) (fun _ _ _ => False) hr e0 (hbind s₁ (.ref a)) (.cons rfl .nil) (hsp H hO hS)
    refine codeAny_mono run ?_
    intro r s' h
    cases r with
    | error e => exact False.elim h
    | ok fl => cases fl with
      | next => exact False.elim h
      | brk => exact False.elim h
      | cont => exact False.elim h
      | ret u =>
        obtain ⟨v, H', os, bare, un, hok', r', q⟩ := h
        obtain rfl : v = .bl true := q
        obtain rfl : u = Value.bool true := r'
        refine ⟨rfl, OldK.of_keep ?_, os, bare⟩
        intro b o e
        cases q : H b with
        | none => exact un.keep b o e q List.not_mem_nil List.not_mem_nil
        | some u =>
          cases hO b with
          | inl z =>
            rw [q] at z
            cases z
          | inr z =>
            obtain ⟨ob, xs, z⟩ := z
            obtain ⟨e1, _⟩ := hok b _ z
            obtain ⟨e2, _⟩ := hok' b _ (un.frzs b ob _ z)
            rw [e] at e1
            cases e1
            exact e2
  cases hk : K.lookup a with
  | some o =>
    have e := KX a o hk
    rw [ha] at e
    cases e
    refine main (fun _ => none) (fun _ => Or.inl rfl) (Or.inr ⟨_, vs.toArray, _, hk, rfl, rfl, rfl, ?_, ?_⟩) ?_ (fun b z => absurd rfl z) (fun z => absurd rfl z)
    · rw [List.size_toArray, lenV]
      exact hl
    · simpa using rv
    · intro b u z
      have z' : (none : Option HO) = some u := z
      cases z'
  | none =>
    have hat : ∀ b : Addr, (fun b => if b = a then some (HO.frz { cls := .type "list", data := .seq vs.toArray } (.lst (ns.map V.int))) else none) b ≠ none → b = a := by
      intro b z
      by_cases hb : b = a
      · exact hb
      · exact absurd (if_neg hb) z
    refine main (fun b => if b = a then some (HO.frz { cls := .type "list", data := .seq vs.toArray } (.lst (ns.map V.int))) else none) ?_ (Or.inl (Or.inr ⟨_, if_pos rfl⟩)) ?_ hat (fun _ => hk)
    · intro b
      by_cases hb : b = a
      · exact Or.inr ⟨_, _, if_pos hb⟩
      · exact Or.inl (if_neg hb)
    · intro b u z
      by_cases hb : b = a
      · have z' := (if_pos hb).symm.trans z
        cases z'
        subst hb
        refine ⟨ha, ?_, vs, _, rv, ha⟩
        rw [List.length_map]
        exact hl
      · have z' := (if_neg hb).symm.trans z
        cases z'

/-- the law row from the promise of its def -/
theorem walkG {l : PySem.W.OpenLaw} {n k : Nat} {q : Program} {loose : List Str} {XP : (Str → Option Value) → Heap → Prop} {YP : World → Heap → Prop} {d : DefRec} {K : Params → PySem.W.Frag} {sp : PySem.W.Frag → Sp} {x : Str}
    (hn : l.most = some n) (hn2 : n ≤ sizeLine) (hdf : d.params.defaults = []) (hr : Room k callerA)
    (hY : ∀ (w : World) (h : Heap), YP w h → (K w.params).In h)
    (F : ∀ (w : World) (mg : Str → Option Value) (fa : Addr) (h : Heap), (K w.params).In h → h.Ns mainGlobals mg → mg d.name = some (.ref fa) →
      ∃ fd : FuncData, (∀ (s : Shared) (u : Value), BindsTo s fd ⟨[u], []⟩ [(x, u)]) ∧
        ∀ base : Heap, (K w.params).In base → base.Ns mainGlobals mg → FnG l.prog w (K w.params) mg base CX0 k fa fd [x] (sp (K w.params)))
    (hsp : ∀ (K : PySem.W.Frag) (H : Hp) (a : Addr) (ns : List Int), ns.length ≤ n → Only H → SqL K H a (ns.map V.int) → sp K [.ref a] H (fun v _ => v = .bl true) fun _ _ _ => False) :
    PySem.W.WalkO q loose XP YP l.row.toRowW d [] (fun f vs => PySem.call f vs) := by
  refine Att.attach_call hn hdf ?_
  intro w s₀ s₁ mg mb fa o pm cd doc a vs ns G Y ho hd hcd hmg hobj hints hlen hg
  have KX := hY w _ Y
  obtain ⟨fd, hb, hF⟩ := F w mg fa _ KX G.T.g hmg
  exact law_callG KX G.T.g G.T.b G.T.builtins G.T.nolimit hg hobj hints (Nat.le_trans hlen hn2) hr hF hb (fun H hO hS => hsp _ H a ns hlen hO hS)

/-! ### repr of data -/
section
variable {X : Cx}
theorem call_reprD (hA : X.A.guards = some []) (hu : X.A.units + 64 < cLine) : CallR X (.builtin "repr") (fun xs H Q => ∃ (a : Addr) (d : PyData), xs = [.ref a] ∧ Dp X.K H (.ref a) d ∧
    d.showable = true ∧ d.hasDict = false ∧ d.depth ≤ 60 ∧ d.shown.length ≤ sizeLine ∧ Q (.str d.shown) H) := by
  intro pins s σ H xs us Q I r h
  obtain ⟨a, d, rfl, hd, hs, hn, hdep, hz, q⟩ := h
  obtain ⟨u, rfl, rx⟩ := vals1 r
  cases (show u = Value.ref a from rx)
  obtain ⟨as, rd⟩ := Dp.reads I d _ _ hd rfl
  refine repr_of_reads' rd hs (PyData.noDict_hsm hn) hA (by omega) (fun b o e => e) ?_ hz
  intro h' u tk hk
  exact ⟨.str d.shown, H, I.kept hk, ⟨u, rfl⟩, q⟩
end
end Mf
namespace Mf
open PySem PySem.Spec PyProof.Rows L2
/-- where one stands: the program, the world, what is written, the module's names -/
structure Cn where
  P : Program
  w : World
  K : PySem.W.Frag
  mg : Str → Option Value
  base : Heap
abbrev cnOf (X : Cx) : Cn := ⟨X.prog, X.w, X.K, X.mg, X.base⟩
/-- a def that can be called by its name -/
structure Cl (c : Cn) (k : Nat) (x : Str) (st : Stmt) (ps : List Str) (sp : Sp) : Prop where
  ex : ∃ (f : Addr) (fd : FuncData), FnG c.P c.w c.K c.mg c.base CX0 k f fd ps sp ∧ c.mg x = some (.ref f) ∧ Fun c.K x x st f fd
/-- a def of the text as it stands -/
structure De (c : Cn) (x : Str) (st : Stmt) : Prop where
  ex : ∃ (f : Addr) (fd : FuncData), c.mg x = some (.ref f) ∧ Fun c.K x x st f fd
/-- the arguments written one behind another -/
def Pl (x : Str) (st : Stmt) (ps : List Str) : Prop := ∀ (kV doc pm : Value) (an : Option Addr) (cdv ct : Value) (us : List Value), us.length = ps.length →
  bindArgs (PySem.W.fnOf x x (defArgs st) (defBody st) (defScope st) .none kV doc pm an cdv ct) ⟨us, []⟩ = pure (ps.zip us)
/-- .. by names alone: the names as they are written, and how they are put in order -/
def Pk (x : Str) (st : Stmt) (ps ks : List Str) (g : List Value → List Value) : Prop := ∀ (kV doc pm : Value) (an : Option Addr) (cdv ct : Value) (ws : List Value), ws.length = ks.length →
  bindArgs (PySem.W.fnOf x x (defArgs st) (defBody st) (defScope st) .none kV doc pm an cdv ct) ⟨[], ks.zip ws⟩ = pure (ps.zip (g ws))

theorem De.cl {c : Cn} {x : Str} {st : Stmt} {N ps : List Str} {k : Nat} {sp : Sp} (D : De c x st) (S : FnScope N ps (defScope st))
    (len : ∀ vs H Q E, sp vs H Q E → vs.length = ps.length)
    (hbody : ∀ (f : Addr) (cdv : Value) (A : Around) (outer : List Env) (s : Shared) (H : Hp) (vs : List V) (Q : VK) (E : XK),
      (A.deeper (envOfC x (defScope st) s.heap.objs.size f cdv)).guards = some [] →
      Room k (A.deeper (envOfC x (defScope st) s.heap.objs.size f cdv)) → sp vs H Q E →
      ∃ t, PSs (cxOf CX0 c.P c.w c.K c.mg c.base N x (defScope st) f cdv A outer s H E).nox (defBody st) t ∧
        t { nx := fun _ H' => Q .non H', rt := Q } (start N vs) H) : Cl c (k + 1) x st ps sp := by
  obtain ⟨f, fd, hm, F⟩ := D.ex
  exact ⟨f, fd, okG F S len (hbody f), hm, F⟩

section
variable {X : Cx} {k j : Nat} {f : Addr} {ps ks : List Str} {sp : Sp} {x : Str} {p pos : Pos} {e : Expr} {es : List Expr} {t tk : TA} {st : Stmt} {kws : List Keyword}
def tCl (sp : Sp) (t : TA) : TE := fun σ H Q => t σ H fun vs H1 => sp vs H1 Q E0
def tClK (sp : Sp) (g : List V → List V) (t : TA) : TE := fun σ H Q => t σ H fun vs H1 => sp (g vs) H1 Q E0
/-- f(e, ..) -/
theorem pe_f (c : Cl (cnOf X) k x st ps sp) (hA : X.A.guards = some []) (hr : Room j X.A) (hk : k ≤ j) (hp : Pl x st ps) (hg : Gl X x) (ha : PA X (e :: es) t)
    (hdb : (x == ("__debug__" : Str)) = false := by decide) (he : starEach (e :: es) X.env = (false, eval e X.env) :: starEach es X.env := by rfl)
    (hpl : (backTo pos (starEach es X.env)).any (·.1) = false := by rfl) : PE X (.Call (.Name x p) (e :: es) [] pos) (tCl sp t) := by
  obtain ⟨f, fd, F, hm, W⟩ := c.ex
  exact pe_callG F hA (hr.mono hk) hg hm W.kp (W.binds hp) pass0 ha hdb he hpl
/-- f(k = e, ..) -/
theorem pe_fk {g : List Value → List Value} {gV : List V → List V} (c : Cl (cnOf X) k x st ps sp) (hA : X.A.guards = some []) (hr : Room j X.A) (hk : k ≤ j) (hp : Pk x st ps ks g)
    (rel : ∀ {vs : List V} {us : List Value}, Vals vs us → us.length = ks.length → Vals (gV vs) (g us)) (hl : ∀ vs : List V, (gV vs).length = ps.length → vs.length = ks.length) (hg : Gl X x) (hkw : PK X kws tk)
    (hall : (backToKw pos (keywordEach kws X.env)).all (·.1.isSome) = true := by rfl) (hks : (backToKw pos (keywordEach kws X.env)).filterMap (·.1) = ks := by rfl)
    (hdb : (x == ("__debug__" : Str)) = false := by decide)
    (hpl : ((backTo pos (starEach [] X.env)).any (·.1) || (backToKw pos (keywordEach kws X.env)).any (·.1.isNone)) = false := by rfl) :
    PE X (.Call (.Name x p) [] kws pos) (tClK sp gV tk) := by
  obtain ⟨f, fd, F, hm, W⟩ := c.ex
  refine ⟨fun pins s σ H Q I h => ?_⟩
  refine wpAny_Call_Name_kw (ld_glob I hg hm ?_ hdb)
  refine PySem.W.callWith_KW0 (h₀ := X.base) I.ok.mod.kin W.kp hall (thn (hkw.run pos pins s σ H _ I h) ?_) hpl
  intro ws s2 ⟨zs, H2, I2, rz, q2⟩
  refine ⟨I2.kIn, ?_⟩
  rw [hks]
  have l0 := F.size _ _ _ _ q2
  have l1 : ws.length = ks.length := by
    rw [← rz.length]
    exact hl _ l0
  have r2 := rel rz l1
  have hb : BindsTo s2 fd ⟨[], ks.zip ws⟩ (ps.zip (g ws)) := by
    obtain ⟨oc, od, kV, doc, pm, an, cdv, ct, osl, rfl, lk, hcd⟩ := W.ex
    exact .of_eq (hp kV doc pm an cdv ct ws l1)
  refine wpAny_call (codeAny_mono (F.go X.A hA X.stack s2 H2 ⟨[], ks.zip ws⟩ (g ws) (gV zs) Q E0 (hr.mono hk) I2.env0 hb r2 q2) ?_)
  intro r s' hq
  cases r with
  | error e => exact pass0 pins σ H2 s2 e s' I2 hq
  | ok fl => cases fl with
    | ret u => exact I2.after hq
    | next => exact hq.elim
    | brk => exact hq.elim
    | cont => exact hq.elim
end

/-! ### operators for whatever comes -/
section
variable {X : Cx}
theorem OpR_or {f : Value → Value → Sem Value} {r r' : R2} (h : OpR X f r) (h' : OpR X f r') : OpR X f (fun x y H Q => r x y H Q ∨ r' x y H Q) := by
  intro pins s σ H x y v u Q I rx ry q
  cases q with
  | inl q => exact h pins s σ H x y v u Q I rx ry q
  | inr q => exact h' pins s σ H x y v u Q I rx ry q
def CMulU (i j : Int) : Prop := CMul i j ∨ CMulW i j
theorem op_mulI : OpR X (binaryOp .Mult) (rI CMulU fun i j => .int (i * j)) := by
  intro pins s σ H x y v u Q I rx ry q
  obtain ⟨i, j, e1, e2, c, q⟩ := q
  cases c with
  | inl c => exact op_mul pins s σ H x y v u Q I rx ry ⟨i, j, e1, e2, c, q⟩
  | inr c => exact op_mulW pins s σ H x y v u Q I rx ry ⟨i, j, e1, e2, c, q⟩
def rAddU : R2 := fun x y H Q => rI0 (fun i j => .int (i + j)) x y H Q ∨ rCat x y H Q
theorem op_addU : OpR X (binaryOp .Add) rAddU := OpR_or op_add op_cat
def rMulU : R2 := fun x y H Q => rI CMulU (fun i j => .int (i * j)) x y H Q ∨ rRep x y H Q
theorem op_mulU : OpR X (binaryOp .Mult) rMulU := OpR_or op_mulI op_rep
def rEqU (K : PySem.W.Frag) : R2 := fun x y H Q => rEq x y H Q ∨ rEqD K x y H Q
def rNeU (K : PySem.W.Frag) : R2 := fun x y H Q => rNe x y H Q ∨ rNeD K x y H Q
theorem op_eqU (hu : X.A.units + 64 < cLine) : OpR X (compareOp .Eq) (rEqU X.K) := OpR_or op_eq (op_eqD hu)
theorem op_neU (hu : X.A.units + 64 < cLine) : OpR X (compareOp .NotEq) (rNeU X.K) := OpR_or op_ne (op_neD hu)
/-- is of a bool that is written -/
def rIsT (b : Bool) : R2 := fun x y H Q => y = .bl b ∧ ((∃ a, x = .bl a ∧ Q (.bl (decide (a = b))) H) ∨ (∃ i, x = .int i ∧ Q (.bl false) H))
def rNotT (b : Bool) : R2 := fun x y H Q => y = .bl b ∧ ((∃ a, x = .bl a ∧ Q (.bl (!decide (a = b))) H) ∨ (∃ i, x = .int i ∧ Q (.bl true) H))
theorem op_notT {b : Bool} : OpR X (compareOp .IsNot) (rNotT b) := by
  intro pins s σ H x y v u Q I rx ry h
  obtain ⟨rfl, h⟩ := h
  rcases h with ⟨a, rfl, q⟩ | ⟨i, rfl, q⟩
  · exact op_notBl pins s σ H _ _ v u Q I rx ry ⟨a, b, rfl, rfl, q⟩
  · obtain ⟨t, rfl⟩ := rx
    cases (show u = Value.bool b from ry)
    exact wpAny_isNot_other rfl (fun z => Value.noConfusion z) ⟨.bl true, H, I, rfl, q⟩
/-- is None, is not None -/
def rIsN : R2 := fun x y H Q => y = .non ∧ Q (.bl (decide (x = .non))) H
def rNotN : R2 := fun x y H Q => y = .non ∧ Q (.bl (!decide (x = .non))) H
theorem op_isNU : OpR X (compareOp .Is) rIsN := op_isN
theorem op_notNU : OpR X (compareOp .IsNot) rNotN := op_notN

/-- what a for walks: one rule or another -/
theorem pi_or {tg it : Expr} {w1 w2 : TI} (h1 : PI X tg it w1) (h2 : PI X tg it w2) : PI X tg it (fun σ H R => w1 σ H R ∨ w2 σ H R) := by
  refine ⟨fun pins s σ H R I h => ?_⟩
  cases h with
  | inl h => exact h1.run pins s σ H R I h
  | inr h => exact h2.run pins s σ H R I h
end

/-! ### isinstance(e, (list, tuple)): the tuple of classes is not tracked -/
def tSeqP (K : PySem.W.Frag) (te : TE) : TE := fun σ H Q => te σ H fun x H1 => ∃ t b, TyX K H1 x (.type t) ∧ PySem.W.kitAny K (.type t) [.type "list", .type "tuple"] = some b ∧ Q (.bl b) H1
section
variable {X : Cx} {e : Expr} {te : TE} {p p1 p2 pt pos : Pos} {kt : Nat}
theorem pe_isSeq (hg : Gl X "isinstance") (hm : X.mg "isinstance" = none) (hg1 : Gl X "list") (hm1 : X.mg "list" = none) (hg2 : Gl X "tuple") (hm2 : X.mg "tuple" = none) (he : PE X e te)
    (hs : starEach [e, .Tuple [.Name "list" p1, .Name "tuple" p2] kt pt] X.env = [(false, eval e X.env), (false, eval (.Tuple [.Name "list" p1, .Name "tuple" p2] kt pt) X.env)] := by rfl)
    (hi : starEach [.Name "list" p1, .Name "tuple" p2] X.env = [(false, eval (.Name "list" p1) X.env), (false, eval (.Name "tuple" p2) X.env)] := by rfl) :
    PE X (.Call (.Name "isinstance" p) [e, .Tuple [.Name "list" p1, .Name "tuple" p2] kt pt] [] pos) (tSeqP X.K te) := by
  refine ⟨fun pins s σ H Q I h => ?_⟩
  have hv : bootBuiltins "isinstance" = some (.builtin "isinstance") := by decide +kernel
  refine wpAny_Call_Name_kw (ld_blt I hg hm hv ?_ (by decide) (by decide))
  refine PyProof.Rows.callWith_builtin1 ?_ (by rw [hs]; rfl) (by rfl)
  rw [hs]
  show wpAny _ _ (spliced ((false, eval e X.env) :: backTo pos [(false, eval (.Tuple [.Name "list" p1, .Name "tuple" p2] kt pt) X.env)])) _ _ s
  refine Calls.spliced_cons (thn (he.run pins s σ H _ I h) ?_)
  intro u s1 ⟨x, H1, I1, r1, t, b, ty, kt', q⟩
  refine Calls.spliced_cons (wpAny_mono (Q := fun v s2 => v = .ref s1.heap.objs.size ∧ s2 = { s1 with heap := s1.heap.push { cls := .type "tuple", data := .seq [Value.type "list", Value.type "tuple"].toArray } }) ?_ ?_ (fun _ _ z => z))
  · refine wpAny_Tuple_spliced (x1 := kt) ?_
    rw [hi]
    show wpAny _ _ (spliced ((false, eval (.Name "list" p1) X.env) :: backTo pt [(false, eval (.Name "tuple" p2) X.env)])) _ _ s1
    refine Calls.spliced_cons (ld_blt I1 hg1 hm1 PyProof.Rows.boot_list ?_ (by decide) (by decide))
    refine Calls.spliced_cons (ld_blt I1 hg2 hm2 PyProof.Rows.boot_tuple ?_ (by decide) (by decide))
    refine Calls.spliced_nil ?_
    exact ⟨by show 2 ≤ sizeLine; decide, rfl, rfl⟩
  · intro v s2 hv
    obtain ⟨rfl, rfl⟩ := hv
    refine Calls.spliced_nil ?_
    have I2 := I1.kept (h' := s1.heap.push { cls := .type "tuple", data := .seq [Value.type "list", Value.type "tuple"].toArray }) (t' := s1.toks) (fun b u e => Heap.get?_push_of_some _ e)
    obtain ⟨Pz, Z, pz, hx⟩ := kit_of I2 r1 ty
    exact PySem.W.kia_tup Z I2.kIn pz (Heap.get?_push_size _ rfl) kt' hx fun tk => ⟨.bl b, H1, I2.tok tk, rfl, q⟩
end
end Mf
namespace Mf
open PySem PySem.Spec PyProof.Rows L2

/-! ### readings, step by step -/
section
variable {K : PySem.W.Frag} {σ : L2.St} {H : Hp} {Q : VK} {v x y : V} {ta tb te : TE} {t u tt : TT} {tr : TA} {r : R2} {D : Ends} {t1 t2 : TS}
theorem g_var {i : Nat} (h : σ[i]? = some (some v)) (q : Q v H) : tVar i σ H Q := ⟨v, h, q⟩
theorem g_c (q : Q v H) : tC v σ H Q := q
theorem g_op (q : ta σ H fun x H1 => tb σ H1 fun y H2 => r x y H2 Q) : tOp r ta tb σ H Q := q
theorem g_un {r : V → Hp → VK → Prop} (q : ta σ H fun x H1 => r x H1 Q) : tUn r ta σ H Q := q
theorem g_cb {r : List V → Hp → VK → Prop} (q : tr σ H fun vs H1 => r vs H1 Q) : tCB r tr σ H Q := q
theorem g_cl {sp : Sp} (q : tr σ H fun vs H1 => sp vs H1 Q E0) : tCl sp tr σ H Q := q
theorem g_clk {sp : Sp} {g : List V → List V} (q : tr σ H fun vs H1 => sp (g vs) H1 Q E0) : tClK sp g tr σ H Q := q
theorem g_nil {R : List V → Hp → Prop} (q : R [] H) : tNil σ H R := q
theorem g_cons {R : List V → Hp → Prop} (q : ta σ H fun x H1 => tr σ H1 fun xs H2 => R (x :: xs) H2) : tCons ta tr σ H R := q
theorem g_tB {R : Bool → Hp → Prop} (q : te σ H fun x H1 => ∃ c, x = .bl c ∧ R c H1) : tB te σ H R := q
theorem g_test {R : Bool → Hp → Prop} (q : te σ H fun x H1 => ∃ c, x = .bl c ∧ R c H1) : tTest te σ H R := q
theorem g_bl {b : Bool} {R : Bool → Prop} (q : R b) : ∃ c, V.bl b = .bl c ∧ R c := ⟨b, rfl, q⟩
theorem g_and {R : Bool → Hp → Prop} (q : t σ H fun c H1 => if c = true then u σ H1 R else R false H1) : tAnd t u σ H R := q
theorem g_or {R : Bool → Hp → Prop} (q : t σ H fun c H1 => if c = true then R true H1 else u σ H1 R) : tOr t u σ H R := q
theorem g_not {R : Bool → Hp → Prop} (q : t σ H fun c H1 => R (!c) H1) : tNot t σ H R := q
theorem g_andV (q : ta σ H fun x H1 => ∃ c, x = .bl c ∧ if c = true then tb σ H1 Q else Q (.bl false) H1) : tAndV ta tb σ H Q := q
theorem g_orV (q : ta σ H fun x H1 => ∃ c, x = .bl c ∧ if c = true then Q (.bl true) H1 else tb σ H1 Q) : tOrV ta tb σ H Q := q
theorem g_notV (q : ta σ H fun x H1 => ∃ c, x = .bl c ∧ Q (.bl (!c)) H1) : tNotV ta σ H Q := q
theorem g_if (q : t σ H fun c H1 => if c = true then ta σ H1 Q else tb σ H1 Q) : tIf t ta tb σ H Q := q
theorem g_ifS (q : t σ H fun b H1 => if b = true then t1 D σ H1 else t2 D σ H1) : tIfS t t1 t2 D σ H := q
theorem g_seq (q : t1 ⟨t2 D, D.rt, D.bk, D.ct⟩ σ H) : tSeq t1 t2 D σ H := q
theorem g_next (q : D.nx σ H) : tNext D σ H := q
theorem g_ret (q : te σ H D.rt) : tRet te D σ H := q
theorem g_drop (q : te σ H fun _ H1 => D.nx σ H1) : tDrop te D σ H := q
theorem g_asg {g : TG} (q : te σ H fun x H1 => g x σ H1 D.nx) : tAsg te g D σ H := q
theorem g_name {i : Nat} {R : L2.St → Hp → Prop} (q : R (σ.set i (some v)) H) : gName i v σ H R := q
theorem g_I0 {g : Int → Int → V} {i j : Int} (q : Q (g i j) H) : rI0 g (.int i) (.int j) H Q := ⟨i, j, rfl, rfl, q⟩
theorem g_I {C : Int → Int → Prop} {g : Int → Int → V} {i j : Int} (c : C i j) (q : Q (g i j) H) : rI C g (.int i) (.int j) H Q := ⟨i, j, rfl, rfl, c, q⟩
theorem g_addI {i j : Int} (q : Q (.int (i + j)) H) : rAddU (.int i) (.int j) H Q := .inl ⟨i, j, rfl, rfl, q⟩
theorem g_mulI {i j : Int} (c : CMulU i j) (q : Q (.int (i * j)) H) : rMulU (.int i) (.int j) H Q := .inl ⟨i, j, rfl, rfl, c, q⟩
theorem g_U {g : Int → V} {i : Int} (q : Q (g i) H) : rU g (.int i) H Q := ⟨i, rfl, q⟩
theorem g_isN (q : Q (.bl (decide (x = .non))) H) : rIsN x .non H Q := ⟨rfl, q⟩
theorem g_notN (q : Q (.bl (!decide (x = .non))) H) : rNotN x .non H Q := ⟨rfl, q⟩
theorem g_notTb {a b : Bool} (q : Q (.bl (!decide (a = b))) H) : rNotT b (.bl a) (.bl b) H Q := ⟨rfl, .inl ⟨a, rfl, q⟩⟩
theorem g_notT1 (q : Q (.bl false) H) : rNotT true (.bl true) (.bl true) H Q := ⟨rfl, .inl ⟨true, rfl, q⟩⟩
theorem g_notT2 (q : Q (.bl true) H) : rNotT true (.bl false) (.bl true) H Q := ⟨rfl, .inl ⟨false, rfl, q⟩⟩
theorem g_notT3 (q : Q (.bl true) H) : rNotT false (.bl true) (.bl false) H Q := ⟨rfl, .inl ⟨true, rfl, q⟩⟩
theorem g_notT4 (q : Q (.bl false) H) : rNotT false (.bl false) (.bl false) H Q := ⟨rfl, .inl ⟨false, rfl, q⟩⟩
theorem g_notTi {i : Int} {b : Bool} (q : Q (.bl true) H) : rNotT b (.int i) (.bl b) H Q := ⟨rfl, .inr ⟨i, rfl, q⟩⟩
theorem g_eqI {i j : Int} (q : Q (.bl (decide (i = j))) H) : rEqU K (.int i) (.int j) H Q := .inl ⟨rfl, by
  have e : decide (V.int i = V.int j) = decide (i = j) := by
    by_cases h : i = j
    · subst h; simp
    · simp [h]
  rw [e]; exact q⟩
theorem g_neI {i j : Int} (q : Q (.bl (!decide (i = j))) H) : rNeU K (.int i) (.int j) H Q := .inl ⟨rfl, by
  have e : decide (V.int i = V.int j) = decide (i = j) := by
    by_cases h : i = j
    · subst h; simp
    · simp [h]
  rw [e]; exact q⟩
theorem g_neS {a b : Str} (q : Q (.bl (!decide (a = b))) H) : rNeU K (.str a) (.str b) H Q := .inl ⟨rfl, by
  have e : decide (V.str a = V.str b) = decide (a = b) := by
    by_cases h : a = b
    · subst h; simp
    · simp [h]
  rw [e]; exact q⟩
theorem g_eqS {a b : Str} (q : Q (.bl (decide (a = b))) H) : rEqU K (.str a) (.str b) H Q := .inl ⟨rfl, by
  have e : decide (V.str a = V.str b) = decide (a = b) := by
    by_cases h : a = b
    · subst h; simp
    · simp [h]
  rw [e]; exact q⟩
theorem g_iteT {A B : Prop} (h : A) : if true = true then A else B := iteT h
theorem g_iteF {A B : Prop} (h : B) : if false = true then A else B := iteF h
theorem g_ite {b : Bool} {A B : Prop} (h1 : b = true → A) (h2 : b = false → B) : if b = true then A else B := by
  cases b with
  | true => exact iteT (h1 rfl)
  | false => exact iteF (h2 rfl)
/-- a new list, a new tuple -/
theorem same_new {H : Hp} {p : Addr} {o : HO} (h : H p = none) : Same H (upd H p o) := fun b z e => by
  rw [upd_ne (ne_of_none e h)]
  exact e
/-- a new list, a new tuple is laid -/
def NewL (xs : List V) (H : Hp) (Q : VK) : Prop := xs.length ≤ sizeLine ∧ ∀ p, H p = none → Q (.ref p) (upd H p (.lst xs))
def NewT (xs : List V) (H : Hp) (Q : VK) : Prop := xs.length ≤ sizeLine ∧ ∀ p, H p = none → Q (.ref p) (upd H p (.tup xs))
theorem g_newL {xs : List V} (hl : xs.length ≤ sizeLine) (q : ∀ p H2, H p = none → Same H H2 → H2 p = some (.lst xs) → Q (.ref p) H2) : NewL xs H Q :=
  ⟨hl, fun p hp => q p _ hp (same_new hp) upd_same⟩
theorem g_newT {xs : List V} (hl : xs.length ≤ sizeLine) (q : ∀ p H2, H p = none → Same H H2 → H2 p = some (.tup xs) → Q (.ref p) H2) : NewT xs H Q :=
  ⟨hl, fun p hp => q p _ hp (same_new hp) upd_same⟩
theorem g_lst (q : tr σ H fun xs H1 => NewL xs H1 Q) : tLst tr σ H Q := q
theorem g_tup (q : tr σ H fun xs H1 => NewT xs H1 Q) : tTup tr σ H Q := q
/-- a list and a list, one behind another -/
theorem g_cat {l b : Addr} {xs zs : List V} (h1 : H l = some (.lst xs)) (h2 : H b = some (.lst zs)) (hz : xs.length + zs.length ≤ sizeLine)
    (q : ∀ p H2, H p = none → Same H H2 → H2 p = some (.lst (xs ++ zs)) → Q (.ref p) H2) : rAddU (.ref l) (.ref b) H Q :=
  .inr ⟨l, b, xs, zs, rfl, rfl, h1, h2, hz, fun p hp => q p _ hp (same_new hp) upd_same⟩
theorem g_rep {l : Addr} {k : Int} {xs : List V} (h1 : H l = some (.lst xs)) (k0 : 0 ≤ k) (k1 : k ≤ 1000) (hz : xs.length * k.toNat ≤ sizeLine)
    (q : ∀ p H2, H p = none → Same H H2 → H2 p = some (.lst (List.replicate k.toNat xs).flatten) → Q (.ref p) H2) : rMulU (.ref l) (.int k) H Q :=
  .inr ⟨l, k, xs, rfl, rfl, h1, by omega, by omega, hz, fun p hp => q p _ hp (same_new hp) upd_same⟩
/-- built-in functions, their readings by name -/
def rIntU : List V → Hp → VK → Prop := fun xs H Q => (∃ i, xs = [.int i] ∧ Q (.int i) H) ∨ ∃ k, xs = [.bl k] ∧ Q (.int (if k then 1 else 0)) H
theorem call_intU {X : Cx} : CallR X (.type "int") rIntU := call_int1
def rAbsU : List V → Hp → VK → Prop := fun xs H Q => ∃ i, xs = [.int i] ∧ Q (.int (if i < 0 then -i else i)) H
theorem call_absU {X : Cx} : CallR X (.builtin "abs") rAbsU := call_abs
def rLenU (K : PySem.W.Frag) : List V → Hp → VK → Prop := fun xs H Q => ∃ x n, xs = [x] ∧ LenV K x H n ∧ Q (.int (n : Nat)) H
theorem call_lenU {X : Cx} : CallR X (.builtin "len") (rLenU X.K) := call_len
def rReprU (K : PySem.W.Frag) : List V → Hp → VK → Prop := fun xs H Q => ∃ (v : V) (d : PyData), xs = [v] ∧ Dp K H v d ∧
    d.showable = true ∧ d.hasDict = false ∧ d.depth ≤ 60 ∧ d.shown.length ≤ sizeLine ∧ Q (.str d.shown) H
theorem call_reprU {X : Cx} (hA : X.A.guards = some []) (hu : X.A.units + 64 < cLine) : CallR X (.builtin "repr") (rReprU X.K) := by
  intro pins s σ H xs us Q I r h
  obtain ⟨v, d, rfl, hd, hs, hn, hdep, hz, q⟩ := h
  have arm := @call_reprD X hA hu pins s σ H [v] us Q I r
  obtain ⟨u, rfl, rx⟩ := vals1 r
  cases hd with
  | non =>
    cases (show u = Value.none from rx)
    exact PySem.P.repr_of_none ⟨.str _, H, I.tok _, ⟨_, rfl⟩, q⟩
  | bl b =>
    cases (show u = Value.bool b from rx)
    exact PySem.P.repr_of_bool ⟨.str _, H, I.tok _, ⟨_, rfl⟩, q⟩
  | int i =>
    obtain ⟨t, rfl⟩ := (show ∃ t, u = Value.int i t from rx)
    exact PySem.P.repr_of_int (of_decide_eq_true hs) ⟨.str _, H, I.tok _, ⟨_, rfl⟩, q⟩
  | str x =>
    obtain ⟨t, rfl⟩ := (show ∃ t, u = Value.str x t from rx)
    exact PySem.P.repr_of_str ⟨.str _, H, I.tok _, ⟨_, rfl⟩, q⟩ hz
  | lst h1 h2 => exact arm ⟨_, _, rfl, .lst h1 h2, hs, hn, hdep, hz, q⟩
  | tup h1 h2 => exact arm ⟨_, _, rfl, .tup h1 h2, hs, hn, hdep, hz, q⟩
theorem g_int {i : Int} (q : Q (.int i) H) : rIntU [.int i] H Q := .inl ⟨i, rfl, q⟩
theorem g_intB {k : Bool} (q : Q (.int (if k then 1 else 0)) H) : rIntU [.bl k] H Q := .inr ⟨k, rfl, q⟩
theorem g_abs {i : Int} (q : Q (.int (if i < 0 then -i else i)) H) : rAbsU [.int i] H Q := ⟨i, rfl, q⟩
theorem g_isNn (q : Q (.bl true) H) : rIsN .non .non H Q := ⟨rfl, q⟩
theorem g_isNi {i : Int} (q : Q (.bl false) H) : rIsN (.int i) .non H Q := ⟨rfl, by simpa using q⟩
theorem g_repr {d : PyData} (h : Dp K H v d) (h1 : d.showable = true) (h2 : d.hasDict = false) (h3 : d.depth ≤ 60) (h4 : d.shown.length ≤ sizeLine) (q : Q (.str d.shown) H) : rReprU K [v] H Q :=
  ⟨v, d, rfl, h, h1, h2, h3, h4, q⟩
end

/-! ### what is kept but at q -/
def SameX (q : Addr) (H H' : Hp) : Prop := ∀ b o, b ≠ q → H b = some o → H' b = some o
theorem Same.x {q : Addr} {H H' : Hp} (s : Same H H') : SameX q H H' := fun b o _ e => s b o e
theorem SameX.refl (q : Addr) (H : Hp) : SameX q H H := fun _ _ _ e => e
theorem SameX.trans {q : Addr} {H H1 H2 : Hp} (a : SameX q H H1) (b : SameX q H1 H2) : SameX q H H2 := fun c o n e => b c o n (a c o n e)
theorem SameX.rd {q a : Addr} {H H' : Hp} {u : HO} (s : SameX q H H') (n : a ≠ q) (h : Rd H a u) : Rd H' a u := by
  rcases h with h | ⟨o, h⟩
  · exact .inl (s _ _ n h)
  · exact .inr ⟨o, s _ _ n h⟩
theorem SameX.seq {K : PySem.W.Frag} {q a : Addr} {H H' : Hp} {xs : List V} (s : SameX q H H') (n : a ≠ q) (h : SqL K H a xs) : SqL K H' a xs := by
  rcases h with h | h
  · exact .inl (s.rd n h)
  · exact .inr h
theorem SameX.tup {K : PySem.W.Frag} {q a : Addr} {H H' : Hp} {xs : List V} (s : SameX q H H') (n : a ≠ q) (h : SqT K H a xs) : SqT K H' a xs := by
  rcases h with h | h
  · exact .inl (s.rd n h)
  · exact .inr h
theorem seqU {K : PySem.W.Frag} {H : Hp} {a : Addr} {xs : List V} (h : H a = some (.lst xs)) : SqL K H a xs := .inl (.inl h)
theorem tupU {K : PySem.W.Frag} {H : Hp} {a : Addr} {xs : List V} (h : H a = some (.tup xs)) : SqT K H a xs := .inl (.inl h)

/-! ### what a value tells: any value of the laws' menus -/
mutual
inductive Dq (q : Addr) (K : PySem.W.Frag) (H : Hp) : V → PyData → Prop
  | non : Dq q K H .non .none
  | bl (b : Bool) : Dq q K H (.bl b) (.bool b)
  | int (i : Int) : Dq q K H (.int i) (.int i)
  | str (x : Str) : x.length ≤ 1000 → Dq q K H (.str x) (.str x)
  | lst {a : Addr} {xs : List V} {ds : List PyData} : a ≠ q → SqL K H a xs → DqAll q K H xs ds → Dq q K H (.ref a) (.list ds)
  | tup {a : Addr} {xs : List V} {ds : List PyData} : a ≠ q → SqT K H a xs → DqAll q K H xs ds → Dq q K H (.ref a) (.tuple ds)
  | dct {a : Addr} {kvs : List (Key × V)} : a ≠ q → H a = some (.dK kvs) → Dq q K H (.ref a) (.dict [])
inductive DqAll (q : Addr) (K : PySem.W.Frag) (H : Hp) : List V → List PyData → Prop
  | nil : DqAll q K H [] []
  | cons {v : V} {vs : List V} {d : PyData} {ds : List PyData} : Dq q K H v d → DqAll q K H vs ds → DqAll q K H (v :: vs) (d :: ds)
end
section
variable {q : Addr} {K : PySem.W.Frag} {H H' : Hp}
mutual
theorem Dq.go (s : SameX q H H') : ∀ {d : PyData} {v : V}, Dq q K H v d → Dq q K H' v d
  | _, _, .non => .non
  | _, _, .bl b => .bl b
  | _, _, .int i => .int i
  | _, _, .str x h => .str x h
  | _, _, .lst n h ha => .lst n (s.seq n h) (DqAll.go s ha)
  | _, _, .tup n h ha => .tup n (s.tup n h) (DqAll.go s ha)
  | _, _, .dct n h => .dct n (s _ _ n h)
theorem DqAll.go (s : SameX q H H') : ∀ {ds : List PyData} {vs : List V}, DqAll q K H vs ds → DqAll q K H' vs ds
  | _, _, .nil => .nil
  | _, _, .cons h t => .cons (Dq.go s h) (DqAll.go s t)
end
theorem DqAll.len : ∀ {vs : List V} {ds : List PyData}, DqAll q K H vs ds → vs.length = ds.length
  | _, _, .nil => rfl
  | _, _, .cons _ t => congrArg Nat.succ (DqAll.len t)
def noDct : PyData → Bool
  | .dict _ => false
  | .list ds | .tuple ds => all ds
  | _ => true
where all : List PyData → Bool
  | [] => true
  | d :: ds => noDct d && all ds
mutual
theorem Dq.dp : ∀ {d : PyData} {v : V}, Dq q K H v d → noDct d = true → Dp K H v d
  | _, _, .non, _ => .non
  | _, _, .bl b, _ => .bl b
  | _, _, .int i, _ => .int i
  | _, _, .str x h, _ => .str x
  | .list ds, _, .lst n h ha, e => .lst h (DqAll.dp ha (by unfold noDct at e; exact e))
  | .tuple ds, _, .tup n h ha, e => .tup h (DqAll.dp ha (by unfold noDct at e; exact e))
  | _, _, .dct n h, e => by unfold noDct at e; exact absurd e (by decide)
theorem DqAll.dp : ∀ {ds : List PyData} {vs : List V}, DqAll q K H vs ds → noDct.all ds = true → DpAll K H vs ds
  | _, _, .nil, _ => .nil
  | d :: ds, _, .cons h t, e => by
    unfold noDct.all at e
    rw [Bool.and_eq_true] at e
    exact .cons (Dq.dp h e.1) (DqAll.dp t e.2)
end
def tyN : PyData → String
  | .none => "NoneType"
  | .bool _ => "bool"
  | .int _ => "int"
  | .str _ => "str"
  | .list _ => "list"
  | .tuple _ => "tuple"
  | .dict _ => "dict"
theorem Dq.ty {d : PyData} {v : V} (h : Dq q K H v d) : TyX K H v (.type (tyN d)) := by
  cases h with
  | non => exact .base .non
  | bl b => exact .base (.bl b)
  | int i => exact .base (.int i)
  | str x => exact .base (.str x)
  | lst n h ha =>
    rcases h with (h | ⟨o, h⟩) | ⟨o, its, m, e, c, _⟩
    · exact .base (.lst h)
    · exact .base (.frz h)
    · exact .kList e c
  | tup n h ha =>
    rcases h with (h | ⟨o, h⟩) | ⟨o, its, m, e, c, _⟩
    · exact .base (.tup h)
    · exact .fTuple h
    · exact .kTuple e c
  | dct n h => exact .base (.dK h)
def isSeqD : PyData → Bool
  | .list _ | .tuple _ => true
  | _ => false
def isIntB : PyData → Bool
  | .int _ | .bool _ => true
  | _ => false
def isIntD : PyData → Bool
  | .int _ => true
  | _ => false
def posD : PyData → Bool
  | .int i => decide (1 ≤ i)
  | _ => false
def isFrD : PyData → Bool
  | .int _ => true
  | .list [a, b] | .tuple [a, b] => isIntD a && posD b
  | _ => false
theorem kit_seq (d : PyData) : PySem.W.kitAny K (.type (tyN d)) [.type "list", .type "tuple"] = some (isSeqD d) := by
  cases d with
  | none => exact kitAny_cons (b := false) (r := false) (kit_ty (show kitB "NoneType" "list" = some false by decide +kernel)) (fun _ => kitAny_cons (b := false) (r := false) (kit_ty (show kitB "NoneType" "tuple" = some false by decide +kernel)) (fun _ => kitAny_nil) (fun z => by cases z)) (fun z => by cases z)
  | bool _ => exact kitAny_cons (b := false) (r := false) (kit_ty (show kitB "bool" "list" = some false by decide +kernel)) (fun _ => kitAny_cons (b := false) (r := false) (kit_ty (show kitB "bool" "tuple" = some false by decide +kernel)) (fun _ => kitAny_nil) (fun z => by cases z)) (fun z => by cases z)
  | int _ => exact kitAny_cons (b := false) (r := false) (kit_ty (show kitB "int" "list" = some false by decide +kernel)) (fun _ => kitAny_cons (b := false) (r := false) (kit_ty (show kitB "int" "tuple" = some false by decide +kernel)) (fun _ => kitAny_nil) (fun z => by cases z)) (fun z => by cases z)
  | str _ => exact kitAny_cons (b := false) (r := false) (kit_ty (show kitB "str" "list" = some false by decide +kernel)) (fun _ => kitAny_cons (b := false) (r := false) (kit_ty (show kitB "str" "tuple" = some false by decide +kernel)) (fun _ => kitAny_nil) (fun z => by cases z)) (fun z => by cases z)
  | list _ => exact kitAny_cons (b := true) (r := true) (kit_ty (show kitB "list" "list" = some true by decide +kernel)) (fun z => by cases z) (fun _ => rfl)
  | tuple _ => exact kitAny_cons (b := false) (r := true) (kit_ty (show kitB "tuple" "list" = some false by decide +kernel)) (fun _ => kitAny_cons (b := true) (r := true) (kit_ty (show kitB "tuple" "tuple" = some true by decide +kernel)) (fun z => by cases z) (fun _ => rfl)) (fun z => by cases z)
  | dict _ => exact kitAny_cons (b := false) (r := false) (kit_ty (show kitB "dict" "list" = some false by decide +kernel)) (fun _ => kitAny_cons (b := false) (r := false) (kit_ty (show kitB "dict" "tuple" = some false by decide +kernel)) (fun _ => kitAny_nil) (fun z => by cases z)) (fun z => by cases z)
theorem kit_int (d : PyData) : PySem.W.kitOne K (.type (tyN d)) (.type "int") = some (isIntB d) := by
  cases d with
  | none => exact kit_ty (show kitB "NoneType" "int" = some false by decide +kernel)
  | bool _ => exact kit_ty (show kitB "bool" "int" = some true by decide +kernel)
  | int _ => exact kit_ty (show kitB "int" "int" = some true by decide +kernel)
  | str _ => exact kit_ty (show kitB "str" "int" = some false by decide +kernel)
  | list _ => exact kit_ty (show kitB "list" "int" = some false by decide +kernel)
  | tuple _ => exact kit_ty (show kitB "tuple" "int" = some false by decide +kernel)
  | dict _ => exact kit_ty (show kitB "dict" "int" = some false by decide +kernel)
def isTupD : PyData → Bool
  | .tuple _ => true
  | _ => false
theorem kit_tuple (d : PyData) : PySem.W.kitOne K (.type (tyN d)) (.type "tuple") = some (isTupD d) := by
  cases d with
  | none => exact kit_ty (show kitB "NoneType" "tuple" = some false by decide +kernel)
  | bool _ => exact kit_ty (show kitB "bool" "tuple" = some false by decide +kernel)
  | int _ => exact kit_ty (show kitB "int" "tuple" = some false by decide +kernel)
  | str _ => exact kit_ty (show kitB "str" "tuple" = some false by decide +kernel)
  | list _ => exact kit_ty (show kitB "list" "tuple" = some false by decide +kernel)
  | tuple _ => exact kit_ty (show kitB "tuple" "tuple" = some true by decide +kernel)
  | dict _ => exact kit_ty (show kitB "dict" "tuple" = some false by decide +kernel)
def isBoolD : PyData → Bool
  | .bool _ => true
  | _ => false
theorem kit_bool (d : PyData) : PySem.W.kitOne K (.type (tyN d)) (.type "bool") = some (isBoolD d) := by
  cases d with
  | none => exact kit_ty (show kitB "NoneType" "bool" = some false by decide +kernel)
  | bool _ => exact kit_ty (show kitB "bool" "bool" = some true by decide +kernel)
  | int _ => exact kit_ty (show kitB "int" "bool" = some false by decide +kernel)
  | str _ => exact kit_ty (show kitB "str" "bool" = some false by decide +kernel)
  | list _ => exact kit_ty (show kitB "list" "bool" = some false by decide +kernel)
  | tuple _ => exact kit_ty (show kitB "tuple" "bool" = some false by decide +kernel)
  | dict _ => exact kit_ty (show kitB "dict" "bool" = some false by decide +kernel)
variable {Q : VK} {σ : L2.St} {te : TE}
def SeqQ (K : PySem.W.Frag) (v : V) (H : Hp) (Q : VK) : Prop := ∃ t b, TyX K H v (.type t) ∧ PySem.W.kitAny K (.type t) [.type "list", .type "tuple"] = some b ∧ Q (.bl b) H
theorem g_seqP (h : te σ H fun x H1 => SeqQ K x H1 Q) : tSeqP K te σ H Q := h
theorem g_seqQ {v : V} {d : PyData} (h : Dq q K H v d) (k : Q (.bl (isSeqD d)) H) : SeqQ K v H Q :=
  ⟨_, _, h.ty, kit_seq d, k⟩
theorem g_isiI {v : V} {d : PyData} (h : Dq q K H v d) (k : Q (.bl (isIntB d)) H) : rIsi K [v, .ty "int"] H Q :=
  ⟨v, .ty "int", _, _, _, rfl, .ty "int", h.ty, kit_int d, k⟩
theorem g_isiT {v : V} {d : PyData} (h : Dq q K H v d) (k : Q (.bl (isTupD d)) H) : rIsi K [v, .ty "tuple"] H Q :=
  ⟨v, .ty "tuple", _, _, _, rfl, .ty "tuple", h.ty, kit_tuple d, k⟩
theorem g_isiB {v : V} {d : PyData} (h : Dq q K H v d) (k : Q (.bl (isBoolD d)) H) : rIsi K [v, .ty "bool"] H Q :=
  ⟨v, .ty "bool", _, _, _, rfl, .ty "bool", h.ty, kit_bool d, k⟩
/-- a list or a tuple -/
def Sq (K : PySem.W.Frag) (H : Hp) (a : Addr) (xs : List V) : Prop := SqL K H a xs ∨ SqT K H a xs
theorem Sq.go {a : Addr} {xs : List V} (s : SameX q H H') (n : a ≠ q) (h : Sq K H a xs) : Sq K H' a xs := by
  rcases h with h | h
  · exact .inl (s.seq n h)
  · exact .inr (s.tup n h)
theorem Dq.seq {d : PyData} {v : V} (h : Dq q K H v d) (e : isSeqD d = true) : ∃ a xs ds, v = .ref a ∧ a ≠ q ∧ Sq K H a xs ∧ DqAll q K H xs ds ∧ (d = .list ds ∨ d = .tuple ds) := by
  cases h with
  | lst n h ha => exact ⟨_, _, _, rfl, n, .inl h, ha, .inl rfl⟩
  | tup n h ha => exact ⟨_, _, _, rfl, n, .inr h, ha, .inr rfl⟩
  | _ => cases e
theorem g_ix {a : Addr} {xs : List V} {i : Int} {v : V} (h : Sq K H a xs) (e : atI xs i = some v) (k : Q v H) : rIx K (.ref a) (.int i) H Q := by
  rcases h with h | h
  · exact .inl ⟨a, xs, i, v, rfl, rfl, h, e, k⟩
  · exact .inr (.inl ⟨a, xs, i, v, rfl, rfl, h, e, k⟩)
theorem g_len {a : Addr} {xs : List V} (h : Sq K H a xs) (k : Q (.int (xs.length : Int)) H) : rLenU K [.ref a] H Q := by
  rcases h with h | h
  · exact ⟨.ref a, xs.length, rfl, .inl ⟨xs, h, rfl⟩, k⟩
  · exact ⟨.ref a, xs.length, rfl, .inr ⟨xs, h, rfl⟩, k⟩
def valD : PyData → Int
  | .int i => i
  | _ => 0
/-- a bound, or none -/
def bdV : Option Int → V
  | none => .non
  | some i => .int i
def loB (l : Option Int) (i : Int) : Bool := match l with | none => true | some m => decide (m ≤ i)
def hiB (l : Option Int) (i : Int) : Bool := match l with | none => true | some m => decide (i ≤ m)
def wthD (d : PyData) (l m : Option Int) : Bool := isIntD d && (loB l (valD d) && hiB m (valD d))
def isPlD : PyData → Bool
  | .list [a, b] | .tuple [a, b] => isFrD a && isFrD b
  | _ => false
theorem posD_eq (d : PyData) : posD d = wthD d (some 1) none := by
  cases d with
  | int i =>
    show decide (1 ≤ i) = (true && (decide (1 ≤ i) && true))
    rw [Bool.true_and, Bool.and_true]
  | _ => rfl
theorem Dq.int_of {d : PyData} {v : V} (h : Dq q K H v d) (e : isIntD d = true) : v = .int (valD d) ∧ d = .int (valD d) := by
  cases h with
  | int i => exact ⟨rfl, rfl⟩
  | _ => cases e
theorem frD_two {d : PyData} {ds : List PyData} (e : d = .list ds ∨ d = .tuple ds) (n : ds.length ≠ 2) : isFrD d = false ∧ isPlD d = false := by
  rcases e with rfl | rfl
  all_goals
    match ds, n with
    | [], _ => exact ⟨rfl, rfl⟩
    | [_], _ => exact ⟨rfl, rfl⟩
    | [_, _], n => exact absurd rfl n
    | _ :: _ :: _ :: _, _ => exact ⟨rfl, rfl⟩
theorem frD_of {d x y : PyData} (e : d = .list [x, y] ∨ d = .tuple [x, y]) : isFrD d = (isIntD x && posD y) ∧ isPlD d = (isFrD x && isFrD y) := by
  rcases e with rfl | rfl <;> exact ⟨rfl, rfl⟩
theorem frD_no {d : PyData} (e : isIntD d = false) (n : isSeqD d = false) : isFrD d = false := by
  cases d with
  | int i => cases e
  | list ds => cases n
  | tuple ds => cases n
  | _ => rfl
theorem plD_no {d : PyData} (n : isSeqD d = false) : isPlD d = false := by
  cases d with
  | list ds => cases n
  | tuple ds => cases n
  | _ => rfl
theorem frD_int {d : PyData} (e : isIntD d = true) : isFrD d = true := by
  cases d with
  | int i => rfl
  | _ => cases e
theorem two_of {vs : List V} {ds : List PyData} (h : DqAll q K H vs ds) (e : vs.length = 2) : ∃ x y a b, vs = [x, y] ∧ ds = [a, b] ∧ Dq q K H x a ∧ Dq q K H y b := by
  cases h with
  | nil => cases e
  | cons h1 t => cases t with
    | nil => cases e
    | cons h2 t => cases t with
      | nil => exact ⟨_, _, _, _, rfl, rfl, h1, h2⟩
      | cons h3 t =>
        rw [List.length_cons, List.length_cons, List.length_cons] at e
        omega
theorem relR {vs : List V} {us : List Value} {ks : List Str} (r : Vals vs us) (_ : us.length = ks.length) : Vals vs.reverse us.reverse := r.reverse
theorem lenR {ps ks : List Str} (h : ps.length = ks.length) (vs : List V) (e : vs.reverse.length = ps.length) : vs.length = ks.length := by
  rw [List.length_reverse] at e
  omega
end
end Mf
namespace Mf
open PySem PySem.Spec PyProof.Rows L2
section
variable {K : PySem.W.Frag} {σ : L2.St} {H H1 : Hp} {Q : VK} {v x y : V} {ta tb te tl : TE} {tt : TT} {tr : TA} {g : TG} {vs : List Nat}
/-! ### slices, comprehensions -/
theorem g_sl {r : V → Option Int → Option Int → Hp → VK → Prop} {to th : TO} (q : te σ H fun x H1 => to σ H1 fun l H2 => th σ H2 fun u H3 => r x l u H3 Q) : tSl r te to th σ H Q := q
theorem g_noPart {R : Option Int → Hp → Prop} (q : R none H) : tNoPart σ H R := q
theorem g_part {R : Option Int → Hp → Prop} (q : te σ H fun x H1 => ∃ i, x = .int i ∧ R (some i) H1) : tPart te σ H R := q
theorem g_ii {i : Int} {R : Int → Prop} (q : R i) : ∃ j, V.int i = .int j ∧ R j := ⟨i, rfl, q⟩
theorem g_slL {a : Addr} {xs : List V} {lo hi : Option Int} (h : SqL K H a xs) (q : ∀ p H2, H p = none → Same H H2 → H2 p = some (.lst (cutV xs lo hi)) → Q (.ref p) H2) : rSlL K (.ref a) lo hi H Q :=
  ⟨a, xs, rfl, h, fun p hp => q p _ hp (same_new hp) upd_same⟩
theorem cut_ints (ns : List Int) (lo hi : Option Int) : ∃ ms : List Int, cutV (ns.map V.int) lo hi = ms.map V.int ∧ ms.length ≤ ns.length := by
  unfold cutV
  refine ⟨(ns.drop (HT.sIx (ns.map V.int).length 0 lo)).take (HT.sIx (ns.map V.int).length (ns.map V.int).length hi - HT.sIx (ns.map V.int).length 0 lo), ?_, ?_⟩
  · rw [List.map_take, List.map_drop]
  · rw [List.length_take, List.length_drop]
    omega
/-- what a comprehension asks once its walked thing is there -/
def LcGo (J : It) (g : TG) (tt : TT) (te : TE) (vs : List Nat) (σ : L2.St) (H1 : Hp) (Q : VK) : Prop := ∀ D, H1 D = none → ∃ W : Nat → Nat → Hp → Prop, (∃ m, W 0 m (upd H1 D (.lst []))) ∧
  ∀ i m H, W i m H → (J.stop i H ∧ Q (.ref D) H) ∨ (J.go i H ∧ ∃ Nx : Hp → Prop, (∀ H', Nx H' → ∃ m', m' < m ∧ W (i + 1) m' H') ∧
    ∀ x H', J.yld i H x H' → g x (wipe σ vs) H' fun σ2 H2 => wipe σ2 vs = wipe σ vs ∧ tt σ2 H2 fun b H3 =>
      if b = true then te σ2 H3 fun y H4 => ∃ acc, H4 D = some (.lst acc) ∧ acc.length < sizeLine ∧ Nx (upd H4 D (.lst (acc ++ [y]))) else Nx H3)
theorem g_lcL (q : tl σ H fun x H1 => ∃ a, x = .ref a ∧ (∃ xs, SqL K H1 a xs) ∧ LcGo (Itl K a) g tt te vs σ H1 Q) : tLc (iList K tl) g tt te vs σ H Q := q
theorem g_lcR (q : tr σ H fun us H1 => ∃ j : Int, us = [.int j] ∧ -(2 ^ 62) ≤ j ∧ j < 2 ^ 62 ∧ LcGo (Itr 0 j.toNat) g tt te vs σ H1 Q) : tLc (iRng1 tr) g tt te vs σ H Q := q
theorem lcgo_list {a : Addr} {xs : List V} {j : Nat} (Pv : Addr → Nat → Hp → Prop) (hw : ∀ x, wipe ((wipe σ vs).set j (some x)) vs = wipe σ vs)
    (h0 : ∀ D, H1 D = none → Pv D 0 (upd H1 D (.lst []))) (hl : ∀ D i H, i ≤ xs.length → Pv D i H → SqL K H a xs)
    (hs : ∀ D i x H, H1 D = none → xs[i]? = some x → Pv D i H → te ((wipe σ vs).set j (some x)) H fun y H4 => ∃ acc, H4 D = some (.lst acc) ∧ acc.length < sizeLine ∧ Pv D (i + 1) (upd H4 D (.lst (acc ++ [y]))))
    (hd : ∀ D H, H1 D = none → Pv D xs.length H → Q (.ref D) H) : LcGo (Itl K a) (gName j) tYes te vs σ H1 Q :=
  fun D hD => lc_list (xs := xs) (Pv D) (h0 D hD) (hl D) (fun i x H e p => ⟨hw x, hs D i x H hD e p⟩) (fun H p => hd D H hD p)
theorem lcgo_range {n j : Nat} (Pv : Addr → Nat → Hp → Prop) (hw : ∀ x, wipe ((wipe σ vs).set j (some x)) vs = wipe σ vs)
    (h0 : ∀ D, H1 D = none → Pv D 0 (upd H1 D (.lst [])))
    (hs : ∀ D i H, H1 D = none → i < n → Pv D i H → te ((wipe σ vs).set j (some (.int (0 + (i : Int))))) H fun y H4 => ∃ acc, H4 D = some (.lst acc) ∧ acc.length < sizeLine ∧ Pv D (i + 1) (upd H4 D (.lst (acc ++ [y]))))
    (hd : ∀ D H, H1 D = none → Pv D n H → Q (.ref D) H) : LcGo (Itr 0 n) (gName j) tYes te vs σ H1 Q :=
  fun D hD => lc_range (lo := 0) (n := n) (Pv D) (h0 D hD) (fun i H e p => ⟨hw _, hs D i H hD e p⟩) (fun H p => hd D H hD p)

/-! ### numbers -/
theorem g_mod {i j : Int} (h : 0 < j) (q : Q (.int (i % j)) H) : rI (fun _ j => 0 < j) (fun i j => .int (i % j)) (.int i) (.int j) H Q := ⟨i, j, rfl, rfl, h, q⟩
theorem g_div {i j : Int} (h : 0 < j) (h2 : j.natAbs.log2 < 9000) (q : Q (.int (i / j)) H) : rI CDivW (fun i j => .int (i / j)) (.int i) (.int j) H Q := ⟨i, j, rfl, rfl, ⟨h, h2⟩, q⟩
theorem g_pow {i j : Int} (h1 : 0 ≤ j) (h2 : j ≤ 1000000) (h : i.natAbs < 2 ^ 64) (q : Q (.int (i ^ j.toNat)) H) : rI CPow (fun i j => .int (i ^ j.toNat)) (.int i) (.int j) H Q := ⟨i, j, rfl, rfl, ⟨h1, h2, h⟩, q⟩
theorem g_mulL {i j : Int} (h1 : -(2 ^ 64) < i) (h2 : i < 2 ^ 64) (q : Q (.int (i * j)) H) : rMulU (.int i) (.int j) H Q := .inl ⟨i, j, rfl, rfl, .inl (.inl ⟨h1, h2⟩), q⟩
theorem g_mulR {i j : Int} (h1 : -(2 ^ 64) < j) (h2 : j < 2 ^ 64) (q : Q (.int (i * j)) H) : rMulU (.int i) (.int j) H Q := .inl ⟨i, j, rfl, rfl, .inl (.inr ⟨h1, h2⟩), q⟩
theorem g_mulW {i j : Int} (h : i.natAbs.log2 + j.natAbs.log2 < 1000000) (q : Q (.int (i * j)) H) : rMulU (.int i) (.int j) H Q := .inl ⟨i, j, rfl, rfl, .inr h, q⟩
theorem g_ltI {i j : Int} (q : Q (.bl (decide (i < j))) H) : rI0 (fun i j => .bl (decide (i < j))) (.int i) (.int j) H Q := ⟨i, j, rfl, rfl, q⟩
theorem g_neNil {c p : Addr} {ns : List Int} (h1 : SqL K H c (ns.map V.int)) (h2 : SqL K H p []) (q : Q (.bl (!ns.isEmpty)) H) : rNeU K (.ref c) (.ref p) H Q := by
  have dall : ∀ l : List Int, DpAll K H (l.map V.int) (l.map PyData.int) := fun l => by
    induction l with
    | nil => exact .nil
    | cons z r ih => exact .cons (.int z) ih
  have lay : ∀ l : List Int, PyData.canLayAll0 (l.map PyData.int) = true := fun l => by
    induction l with
    | nil => rfl
    | cons z r ih =>
      show (true && PyData.canLayAll0 (r.map PyData.int)) = true
      rw [ih]
      rfl
  have dep : ∀ l : List Int, PyData.depthAll (l.map PyData.int) ≤ 1 := fun l => by
    induction l with
    | nil => decide
    | cons z r ih =>
      rw [List.map_cons]
      simp only [PyData.depthAll, PyData.depth]
      omega
  refine .inr ⟨.list (ns.map PyData.int), .list [], .lst h1 (dall ns), .lst h2 .nil, ?_, by decide, ?_⟩
  · unfold SeqAt.shaped
    rw [Bool.and_eq_true]
    refine ⟨lay ns, decide_eq_true ?_⟩
    have := dep ns
    simp only [PyData.depth]
    omega
  · cases ns with
    | nil => exact q
    | cons z r => exact q
theorem g_sub {to ti : TE} {t : TSet} {R : L2.St → Hp → Prop} (q : to σ H fun o H1 => ti σ H1 fun i H2 => t o i v H2 fun H3 => R σ H3) : gSub to ti t v σ H R := q
theorem g_setL {p : Addr} {xs : List V} {k : Int} {j : Nat} {R : Hp → Prop} (h : H p = some (.lst xs)) (e : ixN xs.length k = some j) (q : R (upd H p (.lst (xs.set j v)))) : rSetL (.ref p) (.int k) v H R := ⟨p, xs, k, j, rfl, rfl, h, e, q⟩
theorem stir_bd {s t a b c : Int} (hs0 : 0 ≤ s) (hs : s < 2147483648) (ht0 : 0 ≤ t) (ht : t ≤ 1000000) (ha0 : 0 ≤ a) (ha : a ≤ 100000) (hb0 : 0 ≤ b) (hb : b ≤ 1000000) (hc0 : 0 ≤ c) (hc : c ≤ 1000000) :
    (s * (2 * t + a) + b * t * t + c).natAbs < 2 ^ 64 := by
  have h1 : s * (2 * t + a) ≤ 2147483648 * 2100000 := Int.mul_le_mul (by omega) (by omega) (by omega) (by omega)
  have h2 : 0 ≤ s * (2 * t + a) := Int.mul_nonneg hs0 (by omega)
  have h3 : b * t ≤ 1000000 * 1000000 := Int.mul_le_mul hb ht ht0 (by omega)
  have h4 : 0 ≤ b * t := Int.mul_nonneg hb0 ht0
  have h5 : b * t * t ≤ 1000000000000 * 1000000 := Int.mul_le_mul (by omega) ht ht0 (by omega)
  have h6 : 0 ≤ b * t * t := Int.mul_nonneg h4 ht0
  generalize s * (2 * t + a) = p at *
  generalize b * t * t = r at *
  omega
end

/-! ### what draws -/
/-- q holds the cells, how many were begun, what is left -/
def Qy (K : PySem.W.Frag) (q : Addr) (t : Int) (H : Hp) : Prop := ∃ (c : Addr) (ns : List Int) (r : Int), H q = some (.lst [.ref c, .int t, .int r]) ∧ SqL K H c (ns.map V.int) ∧ c ≠ q ∧ ns.length ≤ 63 ∧ 0 ≤ r ∧ 0 ≤ t
theorem Qy.same {K : PySem.W.Frag} {q : Addr} {t : Int} {H H' : Hp} (s : Same H H') (h : Qy K q t H) : Qy K q t H' := by
  obtain ⟨c, ns, r, h1, h2, h3, h4, h5, h6⟩ := h
  exact ⟨c, ns, r, s _ _ h1, s.seq h2, h3, h4, h5, h6⟩
theorem Qy.nn {K : PySem.W.Frag} {q : Addr} {t : Int} {H : Hp} (h : Qy K q t H) : 0 ≤ t := by
  obtain ⟨c, ns, r, h1, h2, h3, h4, h5, h6⟩ := h
  exact h6
theorem Qy.at {K : PySem.W.Frag} {q : Addr} {t : Int} {H : Hp} (h : Qy K q t H) : ∃ o, H q = some o := by
  obtain ⟨c, ns, r, h1, _⟩ := h
  exact ⟨_, h1⟩
theorem Qy.ne {K : PySem.W.Frag} {q p : Addr} {t : Int} {H : Hp} (h : Qy K q t H) (e : H p = none) : p ≠ q := by
  obtain ⟨o, h1⟩ := h.at
  exact (ne_of_none h1 e).symm
theorem upd_x {q : Addr} {H : Hp} {o : HO} : SameX q H (upd H q o) := fun b z n e => by
  rw [upd_ne n]
  exact e
def sp_quay (K : PySem.W.Frag) : Sp := fun vs H Q _ => ∃ (a : Addr) (ns : List Int), vs = [.ref a] ∧ SqL K H a (ns.map V.int) ∧ ns.length ≤ 63 ∧ ∀ q H', Same H H' → H q = none → Qy K q 0 H' → Q (.ref q) H'
def sp_moor (K : PySem.W.Frag) : Sp := fun vs H Q _ => ∃ (q : Addr) (t n : Int), vs = [.ref q, .int n] ∧ Qy K q t H ∧ t ≤ 1000000 ∧ 0 < n ∧ n.natAbs.log2 < 9000 ∧
  ∀ t' H' i, SameX q H H' → Qy K q t' H' → t ≤ t' → t' ≤ t + 1 → 0 ≤ i → i < n → Q (.int i) H'
def sp_pick (K : PySem.W.Frag) : Sp := fun vs H Q _ => ∃ (q a : Addr) (t : Int) (xs : List V), vs = [.ref q, .ref a] ∧ Qy K q t H ∧ t ≤ 1000000 ∧ a ≠ q ∧ Sq K H a xs ∧ xs ≠ [] ∧ xs.length ≤ 1000 ∧
  ∀ t' H' x, SameX q H H' → Qy K q t' H' → t ≤ t' → t' ≤ t + 1 → x ∈ xs → Q x H'
end Mf
namespace Mf
open PySem PySem.Spec PyProof.Rows L2
/-! ### what a menu's items come to -/
def EvD (q : Addr) (K : PySem.W.Frag) (te : TE) (σ : L2.St) (H : Hp) (d : PyData) : Prop := ∀ H1, Same H H1 → ∀ Q : VK, (∀ v H2, Same H1 H2 → Dq q K H2 v d → Q v H2) → te σ H1 Q
def EvDs (q : Addr) (K : PySem.W.Frag) (ta : TA) (σ : L2.St) (H : Hp) (ds : List PyData) : Prop := ∀ H1, Same H H1 → ∀ Q : List V → Hp → Prop, (∀ vs H2, Same H1 H2 → DqAll q K H2 vs ds → Q vs H2) → ta σ H1 Q
section
variable {q : Addr} {K : PySem.W.Frag} {σ : L2.St} {H : Hp} {te tb : TE} {ta : TA} {d : PyData} {ds : List PyData}
theorem ed_var {i : Nat} {v : V} (e : σ[i]? = some (some v)) (h : Dq q K H v d) : EvD q K (tVar i) σ H d := fun H1 s Q k => ⟨v, e, k v H1 (Same.refl _) (h.go (Same.x s))⟩
theorem ed_int {i : Int} : EvD q K (tC (.int i)) σ H (.int i) := fun H1 _ Q k => k _ H1 (Same.refl _) (.int i)
theorem ed_bl {b : Bool} : EvD q K (tC (.bl b)) σ H (.bool b) := fun H1 _ Q k => k _ H1 (Same.refl _) (.bl b)
theorem ed_non : EvD q K (tC .non) σ H .none := fun H1 _ Q k => k _ H1 (Same.refl _) .non
theorem ed_str {x : Str} (h : x.length ≤ 1000) : EvD q K (tC (.str x)) σ H (.str x) := fun H1 _ Q k => k _ H1 (Same.refl _) (.str x h)
theorem ed_neg {i : Int} (h : EvD q K te σ H (.int i)) : EvD q K (tUn (rU fun i => .int (-i)) te) σ H (.int (-i)) := fun H1 s Q k => h H1 s _ fun v H2 s2 hd => by
  cases hd
  exact ⟨i, rfl, k _ H2 s2 (.int _)⟩
theorem ed_pow {i j : Int} (h1 : EvD q K te σ H (.int i)) (h2 : EvD q K tb σ H (.int j)) (c : CPow i j) : EvD q K (tOp (rI CPow fun i j => .int (i ^ j.toNat)) te tb) σ H (.int (i ^ j.toNat)) := fun H1 s Q k => h1 H1 s _ fun v H2 s2 hd => by
  cases hd
  exact h2 H2 (s.trans s2) _ fun v H3 s3 hd => by
    cases hd
    exact ⟨i, j, rfl, rfl, c, k _ H3 (s2.trans s3) (.int _)⟩
theorem ed_mul {i j : Int} (h1 : EvD q K te σ H (.int i)) (h2 : EvD q K tb σ H (.int j)) (c : CMulU i j) : EvD q K (tOp rMulU te tb) σ H (.int (i * j)) := fun H1 s Q k => h1 H1 s _ fun v H2 s2 hd => by
  cases hd
  exact h2 H2 (s.trans s2) _ fun v H3 s3 hd => by
    cases hd
    exact .inl ⟨i, j, rfl, rfl, c, k _ H3 (s2.trans s3) (.int _)⟩
theorem eds_nil : EvDs q K tNil σ H [] := fun H1 _ Q k => k [] H1 (Same.refl _) .nil
theorem eds_cons (h : EvD q K te σ H d) (t : EvDs q K ta σ H ds) : EvDs q K (tCons te ta) σ H (d :: ds) := fun H1 s Q k => h H1 s _ fun v H2 s2 hd => t H2 (s.trans s2) _ fun vs H3 s3 hds =>
  k (v :: vs) H3 (s2.trans s3) (.cons (hd.go (Same.x s3)) hds)
theorem ed_tup {o : HO} (hq : H q = some o) (h : EvDs q K ta σ H ds) (hl : ds.length ≤ 1000) : EvD q K (tTup ta) σ H (.tuple ds) := fun H1 s Q k => h H1 s _ fun vs H2 s2 hds =>
  ⟨by rw [hds.len]; exact Nat.le_of_lt (small1000 hl), fun p hp => k _ _ (s2.trans (same_new hp)) (.tup (ne_of_none ((s.trans s2) _ _ hq) hp).symm (tupU upd_same) (hds.go (Same.x (same_new hp))))⟩
theorem ed_lst {o : HO} (hq : H q = some o) (h : EvDs q K ta σ H ds) (hl : ds.length ≤ 1000) : EvD q K (tLst ta) σ H (.list ds) := fun H1 s Q k => h H1 s _ fun vs H2 s2 hds =>
  ⟨by rw [hds.len]; exact Nat.le_of_lt (small1000 hl), fun p hp => k _ _ (s2.trans (same_new hp)) (.lst (ne_of_none ((s.trans s2) _ _ hq) hp).symm (seqU upd_same) (hds.go (Same.x (same_new hp))))⟩
theorem ed_dict0 {o : HO} (hq : H q = some o) : EvD q K tDNewK σ H (.dict []) := fun H1 s Q k p hp => k _ _ (same_new hp) (.dct (ne_of_none (s _ _ hq) hp).symm upd_same)
theorem ed_dict2 {o : HO} (hq : H q = some o) {a b c d : Int} : EvD q K (tDisp [(tC (.int a), tC (.int b)), (tC (.int c), tC (.int d))]) σ H (.dict []) := fun H1 s Q k p hp =>
  ⟨upd_same, [(.inl a, .int b), (.inl c, .int d)], rfl, by show 2 ≤ 15; decide, by
    rw [upd_upd]
    exact k _ _ (same_new hp) (.dct (ne_of_none (s _ _ hq) hp).symm upd_same)⟩
/-- .. and used -/
theorem EvDs.run {Q : List V → Hp → Prop} (h : EvDs q K ta σ H ds) (k : ∀ vs H2, Same H H2 → DqAll q K H2 vs ds → Q vs H2) : ta σ H Q := h H (Same.refl _) Q k
theorem EvD.run {Q : VK} (h : EvD q K te σ H d) (k : ∀ v H2, Same H H2 → Dq q K H2 v d → Q v H2) : te σ H Q := h H (Same.refl _) Q k
theorem DqAll.mem : ∀ {vs : List V} {ds : List PyData} {x : V}, DqAll q K H vs ds → x ∈ vs → ∃ d ∈ ds, Dq q K H x d
  | _, _, _, .nil, h => absurd h List.not_mem_nil
  | _, _, _, .cons h t, hx => by
    rcases List.mem_cons.mp hx with rfl | hx
    · exact ⟨_, List.mem_cons_self, h⟩
    · obtain ⟨d, m, e⟩ := DqAll.mem t hx
      exact ⟨d, List.mem_cons_of_mem _ m, e⟩
theorem DqAll.app : ∀ {vs ws : List V} {ds es : List PyData}, DqAll q K H vs ds → DqAll q K H ws es → DqAll q K H (vs ++ ws) (ds ++ es)
  | _, _, _, _, .nil, h => h
  | _, _, _, _, .cons h t, h2 => .cons h (DqAll.app t h2)
/-- data that can be compared and shown -/
def okD (d : PyData) : Bool := noDct d && (d.canLay0 && decide (d.depth ≤ 60))
def okV (d : PyData) : Bool := match d with | .dict _ => true | d => okD d
def okO (d : PyData) : Bool := match d with | .list [a, b] | .tuple [a, b] => okD a && okD b | _ => true
end
theorem noDct_parts : ∀ {ds : List PyData}, noDct.all ds = true → ∀ d ∈ ds, noDct d = true
  | [], _, d, hd => absurd hd List.not_mem_nil
  | x :: r, h, d, hd => by
    unfold noDct.all at h
    rw [Bool.and_eq_true] at h
    rcases List.mem_cons.mp hd with rfl | hd
    · exact h.1
    · exact noDct_parts h.2 d hd
theorem lay_parts : ∀ {ds : List PyData}, PyData.canLayAll0 ds = true → PyData.depthAll ds ≤ 60 → ∀ d ∈ ds, d.canLay0 = true ∧ d.depth ≤ 60
  | [], _, _, d, hd => absurd hd List.not_mem_nil
  | x :: r, h, e, d, hd => by
    have h' : (x.canLay0 && PyData.canLayAll0 r) = true := h
    rw [Bool.and_eq_true] at h'
    simp only [PyData.depthAll] at e
    rcases List.mem_cons.mp hd with rfl | hd
    · exact ⟨h'.1, by omega⟩
    · exact lay_parts h'.2 (by omega) d hd
theorem okD_parts {d : PyData} {ds : List PyData} (e : d = .list ds ∨ d = .tuple ds) (h : okD d = true) : ∀ x ∈ ds, okD x = true := by
  unfold okD at h
  rw [Bool.and_eq_true, Bool.and_eq_true] at h
  obtain ⟨h1, h2, h3⟩ := h
  have h3 := of_decide_eq_true h3
  intro x hx
  have key : noDct.all ds = true ∧ PyData.canLayAll0 ds = true ∧ PyData.depthAll ds ≤ 60 := by
    rcases e with rfl | rfl
    all_goals
      unfold noDct at h1
      simp only [PyData.depth] at h3
      exact ⟨h1, h2, by omega⟩
  obtain ⟨k1, k2, k3⟩ := key
  have := lay_parts k2 k3 x hx
  unfold okD
  rw [Bool.and_eq_true, Bool.and_eq_true]
  exact ⟨noDct_parts k1 x hx, this.1, decide_eq_true this.2⟩
theorem okO_of {d : PyData} (h : okV d = true) : okO d = true := by
  unfold okO
  split
  · rename_i a b
    rw [Bool.and_eq_true]
    exact ⟨okD_parts (.inl rfl) h a (List.mem_cons_self), okD_parts (.inl rfl) h b (List.mem_cons_of_mem _ List.mem_cons_self)⟩
  · rename_i a b
    rw [Bool.and_eq_true]
    exact ⟨okD_parts (.inr rfl) h a (List.mem_cons_self), okD_parts (.inr rfl) h b (List.mem_cons_of_mem _ List.mem_cons_self)⟩
  · rfl
section
variable {q : Addr} {K : PySem.W.Frag} {H : Hp} {Q : VK} {σ : L2.St} {te : TE}
theorem okD_all : ∀ {ds : List PyData}, (∀ d ∈ ds, okD d = true) → noDct.all ds = true ∧ PyData.canLayAll0 ds = true ∧ PyData.depthAll ds ≤ 60
  | [], _ => ⟨rfl, rfl, by decide⟩
  | d :: ds, h => by
    have h1 := h d List.mem_cons_self
    obtain ⟨i1, i2, i3⟩ := okD_all fun e he => h e (List.mem_cons_of_mem _ he)
    unfold okD at h1
    rw [Bool.and_eq_true, Bool.and_eq_true] at h1
    obtain ⟨k1, k2, k3⟩ := h1
    have k3 := of_decide_eq_true k3
    refine ⟨?_, ?_, ?_⟩
    · unfold noDct.all
      rw [k1, i1]
      rfl
    · show (d.canLay0 && PyData.canLayAll0 ds) = true
      rw [k2, i2]
      rfl
    · simp only [PyData.depthAll]
      omega
/-- a list of such == [] -/
theorem g_eqNilD {c p : Addr} {vs : List V} {ds : List PyData} (h1 : SqL K H c vs) (hall : DqAll q K H vs ds) (hok : ∀ d ∈ ds, okD d = true) (h2 : SqL K H p []) (k : Q (.bl vs.isEmpty) H) : rEqU K (.ref c) (.ref p) H Q := by
  obtain ⟨i1, i2, i3⟩ := okD_all hok
  refine .inr ⟨.list ds, .list [], .lst h1 (hall.dp i1), .lst h2 .nil, ?_, by decide, ?_⟩
  · unfold SeqAt.shaped
    rw [Bool.and_eq_true]
    refine ⟨i2, decide_eq_true ?_⟩
    simp only [PyData.depth]
    omega
  · cases hall with
    | nil => exact k
    | cons _ _ => exact k
/-- what is reckoned apart -/
theorem cut_te {v : V} (h1 : ∀ Q : VK, Q v H → te σ H Q) (h2 : Q v H) : te σ H Q := h1 Q h2
theorem cut_teS {v : V} (h1 : ∀ Q : VK, (∀ H', Same H H' → Q v H') → te σ H Q) (h2 : ∀ H', Same H H' → Q v H') : te σ H Q := h1 Q h2
theorem bb_len : ∀ b c : Bool, (PyData.list [.bool b, .bool c]).shown.length ≤ sizeLine := by decide +kernel
theorem b_len : ∀ b : Bool, (PyData.bool b).shown.length ≤ sizeLine := by decide +kernel
theorem g_reprBB {p : Addr} {b c : Bool} (e : H p = some (.lst [.bl b, .bl c])) (k : Q (.str (PyData.list [.bool b, .bool c]).shown) H) : rReprU K [.ref p] H Q :=
  g_repr (.lst (seqU e) (.cons (.bl b) (.cons (.bl c) .nil))) rfl rfl (Nat.le_of_ble_eq_true rfl) (bb_len b c) k
theorem g_reprB {b : Bool} (k : Q (.str (PyData.bool b).shown) H) : rReprU K [.bl b] H Q := g_repr (.bl b) rfl rfl (Nat.le_of_ble_eq_true rfl) (b_len b) k
theorem g_neSs {x : Str} (k : Q (.bl false) H) : rNeU K (.str x) (.str x) H Q := g_neS (by rw [decide_eq_true rfl]; exact k)
theorem g_par {i j : Nat} {ta : TA} {D : Ends} (k : ta σ H fun vs H1 => ∃ u v, vs = [u, v] ∧ D.nx ((σ.set i (some u)).set j (some v)) H1) : tPar i j ta D σ H := k
theorem g_par3 {i j l : Nat} {ta : TA} {D : Ends} (k : ta σ H fun vs H1 => ∃ u v w, vs = [u, v, w] ∧ D.nx (((σ.set i (some u)).set j (some v)).set l (some w)) H1) : tPar3 i j l ta D σ H := k
theorem g_vv {x y : V} {P : V → V → Prop} (k : P x y) : ∃ u v, [x, y] = [u, v] ∧ P u v := ⟨x, y, rfl, k⟩
theorem g_vvv {x y z : V} {P : V → V → V → Prop} (k : P x y z) : ∃ u v w, [x, y, z] = [u, v, w] ∧ P u v w := ⟨x, y, z, rfl, k⟩
/-- a for over range(n) -/
theorem g_for1 {n : Int} {j : Nat} {tb : TS} {D : Ends} (hn : 0 ≤ n ∧ n ≤ 1000) (Pv : Nat → L2.St → Hp → Prop) (h0 : Pv 0 σ H)
    (hs : ∀ i σ H, i < n.toNat → Pv i σ H → tb ⟨Pv (i + 1), D.rt, D.nx, Pv (i + 1)⟩ (σ.set j (some (.int (0 + (i : Int))))) H) (hd : ∀ σ H, Pv n.toNat σ H → D.nx σ H) :
    tFor (iRng1 (tCons (tC (.int n)) tNil)) (gName j) tb D σ H :=
  ⟨n, rfl, by omega, by omega, for_range (lo := 0) (n := n.toNat) Pv h0 (fun i σ H hi p => hs i σ H hi p) hd⟩
theorem mem_bd {x : V} {ls : List (Option Int)} (h : x ∈ ls.map bdV) : ∃ l, x = bdV l := by
  obtain ⟨l, _, e⟩ := List.mem_map.mp h
  exact ⟨l, e.symm⟩
end
section
variable {K : PySem.W.Frag} {σ : L2.St} {H H1 : Hp} {Q : VK} {te : TE} {tt : TT} {vs : List Nat}
theorem g_lcO1 {g : TG} {tl : TE} (q : tl σ H fun x H1 => ∃ a, x = .ref a ∧ (∃ xs, SqL K H1 a xs) ∧ LcGo (Itl K a) g tt te vs σ H1 Q) : tLc (fun σ H R => iList K tl σ H R ∨ iTup K tl σ H R) g tt te vs σ H Q := .inl q
theorem g_lcO2 {g : TG} {tl : TE} (q : tl σ H fun x H1 => ∃ a, x = .ref a ∧ (∃ xs, SqT K H1 a xs) ∧ LcGo (Itt K a) g tt te vs σ H1 Q) : tLc (fun σ H R => iList K tl σ H R ∨ iTup K tl σ H R) g tt te vs σ H Q := .inr q
/-- .. with a test -/
theorem lcgo_listF {a : Addr} {xs : List V} {j : Nat} (Pv : Addr → Nat → Hp → Prop) (hw : ∀ x, wipe ((wipe σ vs).set j (some x)) vs = wipe σ vs)
    (h0 : ∀ D, H1 D = none → Pv D 0 (upd H1 D (.lst []))) (hl : ∀ D i H, i ≤ xs.length → Pv D i H → SqL K H a xs)
    (hs : ∀ D i x H, H1 D = none → xs[i]? = some x → Pv D i H → tt ((wipe σ vs).set j (some x)) H fun b H3 => if b = true then te ((wipe σ vs).set j (some x)) H3 fun y H4 => ∃ acc, H4 D = some (.lst acc) ∧ acc.length < sizeLine ∧ Pv D (i + 1) (upd H4 D (.lst (acc ++ [y]))) else Pv D (i + 1) H3)
    (hd : ∀ D H, H1 D = none → Pv D xs.length H → Q (.ref D) H) : LcGo (Itl K a) (gName j) tt te vs σ H1 Q :=
  fun D hD => lc_list (xs := xs) (Pv D) (h0 D hD) (hl D) (fun i x H e p => ⟨hw x, hs D i x H hD e p⟩) (fun H p => hd D H hD p)
theorem lcgo_tupF {a : Addr} {xs : List V} {j : Nat} (Pv : Addr → Nat → Hp → Prop) (hw : ∀ x, wipe ((wipe σ vs).set j (some x)) vs = wipe σ vs)
    (h0 : ∀ D, H1 D = none → Pv D 0 (upd H1 D (.lst []))) (hl : ∀ D i H, i ≤ xs.length → Pv D i H → SqT K H a xs)
    (hs : ∀ D i x H, H1 D = none → xs[i]? = some x → Pv D i H → tt ((wipe σ vs).set j (some x)) H fun b H3 => if b = true then te ((wipe σ vs).set j (some x)) H3 fun y H4 => ∃ acc, H4 D = some (.lst acc) ∧ acc.length < sizeLine ∧ Pv D (i + 1) (upd H4 D (.lst (acc ++ [y]))) else Pv D (i + 1) H3)
    (hd : ∀ D H, H1 D = none → Pv D xs.length H → Q (.ref D) H) : LcGo (Itt K a) (gName j) tt te vs σ H1 Q :=
  fun D hD => lc_tup (xs := xs) (Pv D) (h0 D hD) (hl D) (fun i x H e p => ⟨hw x, hs D i x H hD e p⟩) (fun H p => hd D H hD p)
end
end Mf
namespace Mf
open PySem PySem.Spec PyProof.Rows L2
local macro_rules | `(tactic| walk_at "mf1") => `(tactic| first
  | ((with_reducible apply g_var); exact rfl)
  | with_reducible first
    | refine g_c ?_ | refine g_op ?_ | refine g_un ?_ | refine g_cb ?_ | refine g_cl ?_ | refine g_clk ?_ | refine g_nil ?_ | refine g_cons ?_
    | refine g_tB ?_ | refine g_test ?_ | refine g_bl ?_ | refine g_and ?_ | refine g_or ?_ | refine g_not ?_ | refine g_andV ?_ | refine g_orV ?_ | refine g_notV ?_
    | refine g_if ?_ | refine g_ifS ?_ | refine g_seq ?_ | refine g_next ?_ | refine g_ret ?_ | refine g_drop ?_ | refine g_asg ?_ | refine g_name ?_ | refine g_sub ?_
    | refine g_int ?_ | refine g_intB ?_ | refine g_abs ?_ | refine g_I0 ?_ | refine g_addI ?_ | refine g_U ?_ | refine g_isNn ?_ | refine g_isNi ?_ | refine g_notN ?_ | refine g_notT1 ?_ | refine g_notT2 ?_ | refine g_notT3 ?_ | refine g_notT4 ?_ | refine g_notTb ?_ | refine g_notTi ?_ | refine g_eqI ?_ | refine g_neI ?_ | refine g_neSs ?_ | refine g_neS ?_ | refine g_eqS ?_
    | refine g_iteT ?_ | refine g_iteF ?_ | refine g_lst ?_ | refine g_tup ?_ | refine g_seqP ?_ | refine g_sl ?_ | refine g_noPart ?_ | refine g_part ?_ | refine g_ii ?_ | refine g_par ?_ | refine g_par3 ?_ | refine g_vv ?_ | refine g_vvv ?_ | refine g_reprB ?_ | refine g_lcL ?_ | refine g_lcR ?_
  | ((with_reducible refine g_mod ?_ ?_); (first | omega | decide))
  | ((with_reducible refine g_div ?_ ?_ ?_); (first | omega | decide); (first | assumption | decide))
  | ((with_reducible refine g_mulL ?_ ?_ ?_); (first | omega | decide); (first | omega | decide))
  | ((with_reducible refine g_mulR ?_ ?_ ?_); (first | omega | decide); (first | omega | decide))
  | ((with_reducible refine g_pow ?_ ?_ ?_ ?_); decide; decide; (first | omega | decide))
  | dsimp only)
local macro_rules | `(tactic| walk_at "mf1s") => `(tactic| first
  | ((with_reducible apply g_var); exact rfl)
  | with_reducible first
    | refine g_c ?_ | refine g_op ?_ | refine g_un ?_ | refine g_cb ?_ | refine g_cl ?_ | refine g_clk ?_ | refine g_nil ?_ | refine g_cons ?_
    | refine g_tB ?_ | refine g_test ?_ | refine g_bl ?_ | refine g_and ?_ | refine g_or ?_ | refine g_not ?_ | refine g_andV ?_ | refine g_orV ?_ | refine g_notV ?_
    | refine g_if ?_ | refine g_ifS ?_ | refine g_next ?_ | refine g_ret ?_ | refine g_drop ?_ | refine g_asg ?_ | refine g_name ?_ | refine g_sub ?_
    | refine g_int ?_ | refine g_intB ?_ | refine g_abs ?_ | refine g_I0 ?_ | refine g_addI ?_ | refine g_U ?_ | refine g_isNn ?_ | refine g_isNi ?_ | refine g_notN ?_ | refine g_notT1 ?_ | refine g_notT2 ?_ | refine g_notT3 ?_ | refine g_notT4 ?_ | refine g_notTb ?_ | refine g_notTi ?_ | refine g_eqI ?_ | refine g_neI ?_ | refine g_neSs ?_ | refine g_neS ?_ | refine g_eqS ?_
    | refine g_iteT ?_ | refine g_iteF ?_ | refine g_lst ?_ | refine g_tup ?_ | refine g_seqP ?_ | refine g_sl ?_ | refine g_noPart ?_ | refine g_part ?_ | refine g_ii ?_ | refine g_par ?_ | refine g_par3 ?_ | refine g_vv ?_ | refine g_vvv ?_ | refine g_reprB ?_ | refine g_lcL ?_ | refine g_lcR ?_
  | ((with_reducible refine g_mod ?_ ?_); (first | omega | decide))
  | ((with_reducible refine g_div ?_ ?_ ?_); (first | omega | decide); (first | assumption | decide))
  | ((with_reducible refine g_mulL ?_ ?_ ?_); (first | omega | decide); (first | omega | decide))
  | ((with_reducible refine g_mulR ?_ ?_ ?_); (first | omega | decide); (first | omega | decide))
  | ((with_reducible refine g_pow ?_ ?_ ?_ ?_); decide; decide; (first | omega | decide))
  | dsimp only)
local macro_rules | `(tactic| walk_at "mfs") => `(tactic| repeat walk_at "mf1s")
local macro_rules | `(tactic| walk_at "mf") => `(tactic| repeat walk_at "mf1")
local macro_rules | `(tactic| walk_at "ed") => `(tactic| repeat (first
  | with_reducible first
    | exact eds_nil | apply eds_cons | exact ed_int | exact ed_bl | exact ed_non | apply ed_neg
  | ((with_reducible apply ed_str); decide)
  | ((with_reducible apply ed_var); (exact rfl); assumption)
  | ((with_reducible apply ed_dict0); assumption)
  | ((with_reducible apply ed_dict2); assumption)
  | ((with_reducible apply ed_tup); assumption)
  | ((with_reducible apply ed_lst); assumption)
  | (with_reducible apply ed_pow)
  | (with_reducible apply ed_mul)
  | (exact ⟨by decide, by decide, by decide⟩)
  | (show List.length _ ≤ 1000; simp only [List.length_cons, List.length_nil]; decide)))
def topS (i : Nat) : Stmt := PySem.Challenge.pw_mapflow_k02_what_any_value_is.main.body.getD i (.Pass ⟨0, 0, 0, 0⟩)
abbrev s_is_integer : Stmt := topS 1
theorem sc_is_integer : FnScope ["value"] ["value"] (defScope s_is_integer) := ⟨rfl, rfl, rfl, by decide +kernel, rfl, by decide +kernel, by decide +kernel⟩
theorem pl_is_integer : Pl "is_integer" s_is_integer ["value"] := fun _ _ _ _ _ _ us hl => match us, hl with | [_], _ => rfl
abbrev s_is_within : Stmt := topS 2
theorem sc_is_within : FnScope ["value", "least", "most"] ["value", "least", "most"] (defScope s_is_within) := ⟨rfl, rfl, rfl, by decide +kernel, rfl, by decide +kernel, by decide +kernel⟩
theorem pl_is_within : Pl "is_within" s_is_within ["value", "least", "most"] := fun _ _ _ _ _ _ us hl => match us, hl with | [_, _, _], _ => rfl
abbrev s_is_list : Stmt := topS 3
theorem sc_is_list : FnScope ["value"] ["value"] (defScope s_is_list) := ⟨rfl, rfl, rfl, by decide +kernel, rfl, by decide +kernel, by decide +kernel⟩
theorem pl_is_list : Pl "is_list" s_is_list ["value"] := fun _ _ _ _ _ _ us hl => match us, hl with | [_], _ => rfl
abbrev s_is_fraction : Stmt := topS 4
theorem sc_is_fraction : FnScope ["value"] ["value"] (defScope s_is_fraction) := ⟨rfl, rfl, rfl, by decide +kernel, rfl, by decide +kernel, by decide +kernel⟩
theorem pl_is_fraction : Pl "is_fraction" s_is_fraction ["value"] := fun _ _ _ _ _ _ us hl => match us, hl with | [_], _ => rfl
abbrev s_is_place : Stmt := topS 5
theorem sc_is_place : FnScope ["value"] ["value"] (defScope s_is_place) := ⟨rfl, rfl, rfl, by decide +kernel, rfl, by decide +kernel, by decide +kernel⟩
theorem pl_is_place : Pl "is_place" s_is_place ["value"] := fun _ _ _ _ _ _ us hl => match us, hl with | [_], _ => rfl
abbrev s__law_quay : Stmt := topS 7
theorem sc__law_quay : FnScope ["script", "cell"] ["script"] (defScope s__law_quay) := ⟨rfl, rfl, rfl, by decide +kernel, rfl, by decide +kernel, by decide +kernel⟩
theorem pl__law_quay : Pl "_law_quay" s__law_quay ["script"] := fun _ _ _ _ _ _ us hl => match us, hl with | [_], _ => rfl
abbrev s__law_moor : Stmt := topS 8
theorem sc__law_moor : FnScope ["quay", "many", "rest", "turn", "cell", "stirred"] ["quay", "many"] (defScope s__law_moor) := ⟨rfl, rfl, rfl, by decide +kernel, rfl, by decide +kernel, by decide +kernel⟩
theorem pl__law_moor : Pl "_law_moor" s__law_moor ["quay", "many"] := fun _ _ _ _ _ _ us hl => match us, hl with | [_, _], _ => rfl
abbrev s__law_pick : Stmt := topS 9
theorem sc__law_pick : FnScope ["quay", "some"] ["quay", "some"] (defScope s__law_pick) := ⟨rfl, rfl, rfl, by decide +kernel, rfl, by decide +kernel, by decide +kernel⟩
theorem pl__law_pick : Pl "_law_pick" s__law_pick ["quay", "some"] := fun _ _ _ _ _ _ us hl => match us, hl with | [_, _], _ => rfl
abbrev s__law_value : Stmt := topS 10
theorem sc__law_value : FnScope ["quay", "some"] ["quay"] (defScope s__law_value) := ⟨rfl, rfl, rfl, by decide +kernel, rfl, by decide +kernel, by decide +kernel⟩
theorem pl__law_value : Pl "_law_value" s__law_value ["quay"] := fun _ _ _ _ _ _ us hl => match us, hl with | [_], _ => rfl
abbrev s__law_is_integer : Stmt := topS 11
theorem sc__law_is_integer : FnScope ["value"] ["value"] (defScope s__law_is_integer) := ⟨rfl, rfl, rfl, by decide +kernel, rfl, by decide +kernel, by decide +kernel⟩
theorem pl__law_is_integer : Pl "_law_is_integer" s__law_is_integer ["value"] := fun _ _ _ _ _ _ us hl => match us, hl with | [_], _ => rfl
abbrev s__law_is_fraction : Stmt := topS 12
theorem sc__law_is_fraction : FnScope ["value"] ["value"] (defScope s__law_is_fraction) := ⟨rfl, rfl, rfl, by decide +kernel, rfl, by decide +kernel, by decide +kernel⟩
theorem pl__law_is_fraction : Pl "_law_is_fraction" s__law_is_fraction ["value"] := fun _ _ _ _ _ _ us hl => match us, hl with | [_], _ => rfl
abbrev s_law : Stmt := topS 13
theorem sc_law : FnScope ["script", "quay", "turn", "value", "least", "most", "is_so", "due", "other", "third", "odd", "each"] ["script"] (defScope s_law) := ⟨rfl, rfl, rfl, by decide +kernel, rfl, by decide +kernel, by decide +kernel⟩
theorem pl_law : Pl "law" s_law ["script"] := fun _ _ _ _ _ _ us hl => match us, hl with | [_], _ => rfl
theorem pk_is_place : Pk "is_place" s_is_place ["value"] ["value"] List.reverse := fun _ _ _ _ _ _ us hl => match us, hl with | [_], _ => rfl
theorem pk_is_fraction : Pk "is_fraction" s_is_fraction ["value"] ["value"] List.reverse := fun _ _ _ _ _ _ us hl => match us, hl with | [_], _ => rfl
theorem pk_is_within : Pk "is_within" s_is_within ["value", "least", "most"] ["most", "least", "value"] List.reverse := fun _ _ _ _ _ _ us hl => match us, hl with | [_, _, _], _ => rfl
theorem pk_is_integer : Pk "is_integer" s_is_integer ["value"] ["value"] List.reverse := fun _ _ _ _ _ _ us hl => match us, hl with | [_], _ => rfl
structure Tx (c : Cn) : Prop where
  n_abs : c.mg "abs" = none
  n_bool : c.mg "bool" = none
  n_int : c.mg "int" = none
  n_isinstance : c.mg "isinstance" = none
  n_len : c.mg "len" = none
  n_list : c.mg "list" = none
  n_range : c.mg "range" = none
  n_repr : c.mg "repr" = none
  n_tuple : c.mg "tuple" = none
  d_is_integer : De c "is_integer" s_is_integer
  d_is_within : De c "is_within" s_is_within
  d_is_list : De c "is_list" s_is_list
  d_is_fraction : De c "is_fraction" s_is_fraction
  d_is_place : De c "is_place" s_is_place
  d__law_quay : De c "_law_quay" s__law_quay
  d__law_moor : De c "_law_moor" s__law_moor
  d__law_pick : De c "_law_pick" s__law_pick
  d__law_value : De c "_law_value" s__law_value
  d__law_is_integer : De c "_law_is_integer" s__law_is_integer
  d__law_is_fraction : De c "_law_is_fraction" s__law_is_fraction
  d_law : De c "law" s_law

def sp_iswth (K : PySem.W.Frag) : Sp := fun vs H Q _ => ∃ q v d l m, vs = [v, bdV l, bdV m] ∧ Dq q K H v d ∧ Q (.bl (wthD d l m)) H
def sp_islist (K : PySem.W.Frag) : Sp := fun vs H Q _ => ∃ q v d, vs = [v] ∧ Dq q K H v d ∧ Q (.bl (isSeqD d)) H
def sp_isfr (K : PySem.W.Frag) : Sp := fun vs H Q _ => ∃ q v d, vs = [v] ∧ Dq q K H v d ∧ Q (.bl (isFrD d)) H
def sp_ispl (K : PySem.W.Frag) : Sp := fun vs H Q _ => ∃ q v d, vs = [v] ∧ Dq q K H v d ∧ Q (.bl (isPlD d)) H
def sp_isint (K : PySem.W.Frag) : Sp := fun vs H Q _ => ∃ q v d, vs = [v] ∧ Dq q K H v d ∧ Q (.bl (isIntD d)) H
theorem ok_is_integer (c : Cn) (T : Tx c) : Cl c 1 "is_integer" s_is_integer ["value"] (sp_isint c.K) := by
  obtain ⟨P, w, K, mg, base⟩ := c
  refine De.cl (N := ["value"]) T.d_is_integer sc_is_integer (fun vs H Q E h => ?_) (fun f0 cdv A outer s H vs Q E hA hr h => ?_)
  · obtain ⟨q, v, d, rfl, _⟩ := h; rfl
  · have S := sc_is_integer
    obtain ⟨q, v, d, rfl, hd, k⟩ := h
    refine ⟨_, (pss_one (ps_ret (pe_and (pe_callB call_isi (by rfl) T.n_isinstance (show bootBuiltins "isinstance" = some (.builtin "isinstance") by decide +kernel) (pa_cons (pv 0) (pa_cons (pe_bltn (v := .ty "int") (by rfl) T.n_int (show bootBuiltins "int" = some (.type "int") by decide +kernel) rfl) pa_nil))) (pe_one (pe_not (pe_callB call_isi (by rfl) T.n_isinstance (show bootBuiltins "isinstance" = some (.builtin "isinstance") by decide +kernel) (pa_cons (pv 0) (pa_cons (pe_bltn (v := .ty "bool") (by rfl) T.n_bool (show bootBuiltins "bool" = some (.type "bool") by decide +kernel) rfl) pa_nil)))))))), ?_⟩
    walk_at "mf"
    refine g_isiI hd ?_
    walk_at "mf"
    refine g_ite (fun h => ?_) (fun h => ?_)
    · walk_at "mf"
      refine g_isiB hd ?_
      walk_at "mf"
      rw [show isIntD d = !isBoolD d by cases d <;> first | rfl | cases h] at k
      exact k
    · rw [show isIntD d = false by cases d <;> first | rfl | cases h] at k
      exact k
theorem ok_is_within (c : Cn) (T : Tx c) : Cl c 2 "is_within" s_is_within ["value", "least", "most"] (sp_iswth c.K) := by
  obtain ⟨P, w, K, mg, base⟩ := c
  have C_is_integer := ok_is_integer _ T
  refine De.cl (N := ["value", "least", "most"]) T.d_is_within sc_is_within (fun vs H Q E h => ?_) (fun f0 cdv A outer s H vs Q E hA hr h => ?_)
  · obtain ⟨q, v, d, l, m, rfl, _⟩ := h; rfl
  · have S := sc_is_within
    obtain ⟨q, v, d, l, m, rfl, hd, k⟩ := h
    refine ⟨_, (pss_cons (ps_if (pt_not (pt_val (pe_f C_is_integer hA hr (by decide) pl_is_integer (by rfl) (pa_cons (pv 0) pa_nil)))) (pss_one (ps_ret pe_bl)) pss_nil)
      (pss_one (ps_ret (pe_and (pe_or (pe_cmpR op_isNU (pv 1) pe_non (nomark _)) (pe_one (pe_cmpR op_ge (pv 0) (pv 1) (nomark _)))) (pe_one (pe_or (pe_cmpR op_isNU (pv 2) pe_non (nomark _)) (pe_one (pe_cmpR op_le (pv 0) (pv 2) (nomark _))))))))), ?_⟩
    walk_at "mf"
    refine ⟨q, v, d, rfl, hd, ?_⟩
    walk_at "mf"
    refine g_ite (fun h => ?_) (fun h => ?_)
    · have e : isIntD d = false := by simpa using h
      walk_at "mf"
      rw [show wthD d l m = false by unfold wthD; rw [e]; rfl] at k
      exact k
    · have e : isIntD d = true := by simpa using h
      obtain ⟨rfl, hv⟩ := hd.int_of e
      rw [show wthD d l m = (loB l (valD d) && hiB m (valD d)) by unfold wthD; rw [e]; rfl] at k
      cases l with
      | none => cases m with
        | none =>
          dsimp only [bdV]
          walk_at "mf"
          exact k
        | some m =>
          dsimp only [bdV]
          walk_at "mf"
          exact k
      | some l => cases m with
        | none =>
          dsimp only [bdV]
          walk_at "mf"
          refine g_ite (fun h1 => ?_) (fun h1 => ?_)
          · walk_at "mf"
            rw [show loB (some l) (valD d) = true from h1] at k
            exact k
          · rw [show loB (some l) (valD d) = false from h1] at k
            exact k
        | some m =>
          dsimp only [bdV]
          walk_at "mf"
          refine g_ite (fun h1 => ?_) (fun h1 => ?_)
          · walk_at "mf"
            rw [show loB (some l) (valD d) = true from h1] at k
            exact k
          · rw [show loB (some l) (valD d) = false from h1] at k
            exact k
theorem ok_is_list (c : Cn) (T : Tx c) : Cl c 1 "is_list" s_is_list ["value"] (sp_islist c.K) := by
  obtain ⟨P, w, K, mg, base⟩ := c
  refine De.cl (N := ["value"]) T.d_is_list sc_is_list (fun vs H Q E h => ?_) (fun f0 cdv A outer s H vs Q E hA hr h => ?_)
  · obtain ⟨q, v, d, rfl, _⟩ := h; rfl
  · have S := sc_is_list
    obtain ⟨q, v, d, rfl, hd, k⟩ := h
    refine ⟨_, (pss_one (ps_ret (pe_isSeq (by rfl) T.n_isinstance (by rfl) T.n_list (by rfl) T.n_tuple (pv 0)))), ?_⟩
    walk_at "mf"
    exact g_seqQ hd k
theorem ok_is_fraction (c : Cn) (T : Tx c) : Cl c 3 "is_fraction" s_is_fraction ["value"] (sp_isfr c.K) := by
  obtain ⟨P, w, K, mg, base⟩ := c
  have C_is_integer := ok_is_integer _ T
  have C_is_list := ok_is_list _ T
  have C_is_within := ok_is_within _ T
  refine De.cl (N := ["value"]) T.d_is_fraction sc_is_fraction (fun vs H Q E h => ?_) (fun f0 cdv A outer s H vs Q E hA hr h => ?_)
  · obtain ⟨q, v, d, rfl, _⟩ := h; rfl
  · have S := sc_is_fraction
    obtain ⟨q, v, d, rfl, hd, k⟩ := h
    refine ⟨_, (pss_cons (ps_if (pt_val (pe_f C_is_integer hA hr (by decide) pl_is_integer (by rfl) (pa_cons (pv 0) pa_nil))) (pss_one (ps_ret pe_bl)) pss_nil)
      (pss_cons (ps_if (PW.pt (pw_or (pt_not (pt_val (pe_f C_is_list hA hr (by decide) pl_is_list (by rfl) (pa_cons (pv 0) pa_nil)))) (pw_or1 (pt_cmpR (op_neU hr.units) (pe_callB call_lenU (by rfl) T.n_len PySem.boot_len (pa_cons (pv 0) pa_nil)) pe_int (nomark _))))) (pss_one (ps_ret pe_bl)) pss_nil)
      (pss_one (ps_ret (pe_and (pe_f C_is_integer hA hr (by decide) pl_is_integer (by rfl) (pa_cons (pe_ix ix_seq (pv 0) pe_int (fun _ _ => rfl)) pa_nil)) (pe_one (pe_f C_is_within hA hr (by decide) pl_is_within (by rfl) (pa_cons (pe_ix ix_seq (pv 0) pe_int (fun _ _ => rfl)) (pa_cons pe_int (pa_cons pe_non pa_nil)))))))))), ?_⟩
    walk_at "mf"
    refine ⟨q, v, d, rfl, hd, ?_⟩
    walk_at "mf"
    refine g_ite (fun h1 => ?_) (fun h1 => ?_)
    · walk_at "mf"
      rw [frD_int h1] at k
      exact k
    · walk_at "mf"
      refine ⟨q, v, d, rfl, hd, ?_⟩
      walk_at "mf"
      refine g_ite (fun h2 => ?_) (fun h2 => ?_)
      · walk_at "mf"
        rw [frD_no h1 (by simpa using h2)] at k
        exact k
      · obtain ⟨a, xs, ds, rfl, na, hs, hall, ed⟩ := hd.seq (by simpa using h2)
        walk_at "mf"
        refine g_len hs ?_
        walk_at "mf"
        refine g_ite (fun h3 => ?_) (fun h3 => ?_)
        · walk_at "mf"
          rw [(frD_two ed (by rw [← hall.len]; simp at h3; omega)).1] at k
          exact k
        · obtain ⟨x, y, dx, dy, rfl, rfl, hx, hy⟩ := two_of hall (by simp at h3; omega)
          rw [(frD_of ed).1] at k
          walk_at "mf"
          refine g_ix hs rfl ?_
          walk_at "mf"
          refine ⟨q, x, dx, rfl, hx, ?_⟩
          walk_at "mf"
          refine g_ite (fun h4 => ?_) (fun h4 => ?_)
          · walk_at "mf"
            refine g_ix hs rfl ?_
            walk_at "mf"
            refine ⟨q, y, dy, some 1, none, rfl, hy, ?_⟩
            rw [h4, Bool.true_and, posD_eq] at k
            exact k
          · rw [h4] at k
            exact k
theorem ok_is_place (c : Cn) (T : Tx c) : Cl c 4 "is_place" s_is_place ["value"] (sp_ispl c.K) := by
  obtain ⟨P, w, K, mg, base⟩ := c
  have C_is_fraction := ok_is_fraction _ T
  have C_is_list := ok_is_list _ T
  refine De.cl (N := ["value"]) T.d_is_place sc_is_place (fun vs H Q E h => ?_) (fun f0 cdv A outer s H vs Q E hA hr h => ?_)
  · obtain ⟨q, v, d, rfl, _⟩ := h; rfl
  · have S := sc_is_place
    obtain ⟨q, v, d, rfl, hd, k⟩ := h
    refine ⟨_, (pss_cons (ps_if (PW.pt (pw_or (pt_not (pt_val (pe_f C_is_list hA hr (by decide) pl_is_list (by rfl) (pa_cons (pv 0) pa_nil)))) (pw_or1 (pt_cmpR (op_neU hr.units) (pe_callB call_lenU (by rfl) T.n_len PySem.boot_len (pa_cons (pv 0) pa_nil)) pe_int (nomark _))))) (pss_one (ps_ret pe_bl)) pss_nil)
      (pss_one (ps_ret (pe_and (pe_f C_is_fraction hA hr (by decide) pl_is_fraction (by rfl) (pa_cons (pe_ix ix_seq (pv 0) pe_int (fun _ _ => rfl)) pa_nil)) (pe_one (pe_f C_is_fraction hA hr (by decide) pl_is_fraction (by rfl) (pa_cons (pe_ix ix_seq (pv 0) pe_int (fun _ _ => rfl)) pa_nil))))))), ?_⟩
    walk_at "mf"
    refine ⟨q, v, d, rfl, hd, ?_⟩
    walk_at "mf"
    refine g_ite (fun h2 => ?_) (fun h2 => ?_)
    · walk_at "mf"
      rw [plD_no (by simpa using h2)] at k
      exact k
    · obtain ⟨a, xs, ds, rfl, na, hs, hall, ed⟩ := hd.seq (by simpa using h2)
      walk_at "mf"
      refine g_len hs ?_
      walk_at "mf"
      refine g_ite (fun h3 => ?_) (fun h3 => ?_)
      · walk_at "mf"
        rw [(frD_two ed (by rw [← hall.len]; simp at h3; omega)).2] at k
        exact k
      · obtain ⟨x, y, dx, dy, rfl, rfl, hx, hy⟩ := two_of hall (by simp at h3; omega)
        rw [(frD_of ed).2] at k
        walk_at "mf"
        refine g_ix hs rfl ?_
        walk_at "mf"
        refine ⟨q, x, dx, rfl, hx, ?_⟩
        walk_at "mf"
        refine g_ite (fun h4 => ?_) (fun h4 => ?_)
        · walk_at "mf"
          refine g_ix hs rfl ?_
          walk_at "mf"
          refine ⟨q, y, dy, rfl, hy, ?_⟩
          rw [h4] at k
          exact k
        · rw [h4] at k
          exact k
end Mf
namespace Mf
open PySem PySem.Spec PyProof.Rows L2
local macro_rules | `(tactic| walk_at "mf1") => `(tactic| first
  | ((with_reducible apply g_var); exact rfl)
  | with_reducible first
    | refine g_c ?_ | refine g_op ?_ | refine g_un ?_ | refine g_cb ?_ | refine g_cl ?_ | refine g_clk ?_ | refine g_nil ?_ | refine g_cons ?_
    | refine g_tB ?_ | refine g_test ?_ | refine g_bl ?_ | refine g_and ?_ | refine g_or ?_ | refine g_not ?_ | refine g_andV ?_ | refine g_orV ?_ | refine g_notV ?_
    | refine g_if ?_ | refine g_ifS ?_ | refine g_seq ?_ | refine g_next ?_ | refine g_ret ?_ | refine g_drop ?_ | refine g_asg ?_ | refine g_name ?_ | refine g_sub ?_
    | refine g_int ?_ | refine g_intB ?_ | refine g_abs ?_ | refine g_I0 ?_ | refine g_addI ?_ | refine g_U ?_ | refine g_isNn ?_ | refine g_isNi ?_ | refine g_notN ?_ | refine g_notT1 ?_ | refine g_notT2 ?_ | refine g_notT3 ?_ | refine g_notT4 ?_ | refine g_notTb ?_ | refine g_notTi ?_ | refine g_eqI ?_ | refine g_neI ?_ | refine g_neSs ?_ | refine g_neS ?_ | refine g_eqS ?_
    | refine g_iteT ?_ | refine g_iteF ?_ | refine g_lst ?_ | refine g_tup ?_ | refine g_seqP ?_ | refine g_sl ?_ | refine g_noPart ?_ | refine g_part ?_ | refine g_ii ?_ | refine g_par ?_ | refine g_par3 ?_ | refine g_vv ?_ | refine g_vvv ?_ | refine g_reprB ?_ | refine g_lcL ?_ | refine g_lcR ?_
  | ((with_reducible refine g_mod ?_ ?_); (first | omega | decide))
  | ((with_reducible refine g_div ?_ ?_ ?_); (first | omega | decide); (first | assumption | decide))
  | ((with_reducible refine g_mulL ?_ ?_ ?_); (first | omega | decide); (first | omega | decide))
  | ((with_reducible refine g_mulR ?_ ?_ ?_); (first | omega | decide); (first | omega | decide))
  | ((with_reducible refine g_pow ?_ ?_ ?_ ?_); decide; decide; (first | omega | decide))
  | dsimp only)
local macro_rules | `(tactic| walk_at "mf1s") => `(tactic| first
  | ((with_reducible apply g_var); exact rfl)
  | with_reducible first
    | refine g_c ?_ | refine g_op ?_ | refine g_un ?_ | refine g_cb ?_ | refine g_cl ?_ | refine g_clk ?_ | refine g_nil ?_ | refine g_cons ?_
    | refine g_tB ?_ | refine g_test ?_ | refine g_bl ?_ | refine g_and ?_ | refine g_or ?_ | refine g_not ?_ | refine g_andV ?_ | refine g_orV ?_ | refine g_notV ?_
    | refine g_if ?_ | refine g_ifS ?_ | refine g_next ?_ | refine g_ret ?_ | refine g_drop ?_ | refine g_asg ?_ | refine g_name ?_ | refine g_sub ?_
    | refine g_int ?_ | refine g_intB ?_ | refine g_abs ?_ | refine g_I0 ?_ | refine g_addI ?_ | refine g_U ?_ | refine g_isNn ?_ | refine g_isNi ?_ | refine g_notN ?_ | refine g_notT1 ?_ | refine g_notT2 ?_ | refine g_notT3 ?_ | refine g_notT4 ?_ | refine g_notTb ?_ | refine g_notTi ?_ | refine g_eqI ?_ | refine g_neI ?_ | refine g_neSs ?_ | refine g_neS ?_ | refine g_eqS ?_
    | refine g_iteT ?_ | refine g_iteF ?_ | refine g_lst ?_ | refine g_tup ?_ | refine g_seqP ?_ | refine g_sl ?_ | refine g_noPart ?_ | refine g_part ?_ | refine g_ii ?_ | refine g_par ?_ | refine g_par3 ?_ | refine g_vv ?_ | refine g_vvv ?_ | refine g_reprB ?_ | refine g_lcL ?_ | refine g_lcR ?_
  | ((with_reducible refine g_mod ?_ ?_); (first | omega | decide))
  | ((with_reducible refine g_div ?_ ?_ ?_); (first | omega | decide); (first | assumption | decide))
  | ((with_reducible refine g_mulL ?_ ?_ ?_); (first | omega | decide); (first | omega | decide))
  | ((with_reducible refine g_mulR ?_ ?_ ?_); (first | omega | decide); (first | omega | decide))
  | ((with_reducible refine g_pow ?_ ?_ ?_ ?_); decide; decide; (first | omega | decide))
  | dsimp only)
local macro_rules | `(tactic| walk_at "mfs") => `(tactic| repeat walk_at "mf1s")
local macro_rules | `(tactic| walk_at "mf") => `(tactic| repeat walk_at "mf1")
local macro_rules | `(tactic| walk_at "ed") => `(tactic| repeat (first
  | with_reducible first
    | exact eds_nil | apply eds_cons | exact ed_int | exact ed_bl | exact ed_non | apply ed_neg
  | ((with_reducible apply ed_str); decide)
  | ((with_reducible apply ed_var); (exact rfl); assumption)
  | ((with_reducible apply ed_dict0); assumption)
  | ((with_reducible apply ed_dict2); assumption)
  | ((with_reducible apply ed_tup); assumption)
  | ((with_reducible apply ed_lst); assumption)
  | (with_reducible apply ed_pow)
  | (with_reducible apply ed_mul)
  | (exact ⟨by decide, by decide, by decide⟩)
  | (show List.length _ ≤ 1000; simp only [List.length_cons, List.length_nil]; decide)))
theorem ok__law_quay (c : Cn) (T : Tx c) : Cl c 1 "_law_quay" s__law_quay ["script"] (sp_quay c.K) := by
  obtain ⟨P, w, K, mg, base⟩ := c
  refine De.cl (N := ["script", "cell"]) T.d__law_quay sc__law_quay (fun vs H Q E h => ?_) (fun f0 cdv A outer s H vs Q E hA hr h => ?_)
  · obtain ⟨a, ns, rfl, _⟩ := h; rfl
  · have S := sc__law_quay
    obtain ⟨a, ns, rfl, hS, hlen, k⟩ := h
    refine ⟨_, (pss_one (ps_ret (pe_lst (pa_cons (pe_lc (own := [("cell", 1)]) (g := gName 1) (tt := tYes) rfl S.nd (pi_list (pe_slice sl_list (pv 0) po_none (po_some pe_int))) (blkOk_by (N := ["script", "cell"]) (sc := defScope s__law_quay) (by decide +kernel)) (fun _ _ _ _ _ => pg_name (i := 1) S.nd rfl (Or.inl rfl)) (fun _ _ _ _ _ => pts_nil) (fun _ _ _ _ _ => (pe_callTy call_intU (by rfl) T.n_int PyProof.Rows.boot_int (pa_cons (pv 1) pa_nil)))) (pa_cons pe_int (pa_cons pe_int pa_nil)))))), ?_⟩
    walk_at "mf"
    refine g_slL hS fun p H1 hp s1 e1 => ?_
    obtain ⟨ms, em, lm⟩ := cut_ints ns none (some 56)
    walk_at "mf"
    rw [em] at e1
    refine ⟨p, rfl, ⟨_, seqU e1⟩, ?_⟩
    refine lcgo_list (xs := ms.map V.int) (fun D i H' => Same H1 H' ∧ H' D = some (.lst ((ms.take i).map V.int))) (fun x => rfl) (fun D hD => ⟨same_new hD, upd_same⟩) (fun D i H' _ h => seqU (h.1 _ _ e1)) (fun D i x H' hD ex h => ?_) (fun D H' hD h => ?_)
    · obtain ⟨h1, h2⟩ := h
      rw [List.getElem?_map] at ex
      obtain ⟨z, ez, rfl⟩ := Option.map_eq_some_iff.mp ex
      walk_at "mf"
      have hi := (List.getElem?_eq_some_iff.mp ez).1
      refine ⟨_, h2, ?_, ?_, ?_⟩
      · rw [List.length_map, List.length_take]
        exact small1000 (by omega)
      · intro b o e
        rw [upd_ne (ne_of_none e hD)]
        exact h1 b o e
      · rw [upd_same, List.take_add_one, ez, List.map_append]
        rfl
    · obtain ⟨h1, h2⟩ := h
      rw [List.length_map, List.take_length] at h2
      walk_at "mf"
      refine g_newL (by show 3 ≤ sizeLine; decide) fun q H2 hq s2 e2 => ?_
      have hDq : D ≠ q := ne_of_none h2 hq
      refine k q H2 ((s1.trans h1).trans s2) ((s1.trans h1).free hq) ⟨D, ms, 0, e2, seqU (s2 _ _ h2), hDq, by omega, by omega, by omega⟩
theorem ok__law_moor (c : Cn) (T : Tx c) : Cl c 1 "_law_moor" s__law_moor ["quay", "many"] (sp_moor c.K) := by
  obtain ⟨P, w, K, mg, base⟩ := c
  refine De.cl (N := ["quay", "many", "rest", "turn", "cell", "stirred"]) T.d__law_moor sc__law_moor (fun vs H Q E h => ?_) (fun f0 cdv A outer s H vs Q E hA hr h => ?_)
  · obtain ⟨q, t, n, rfl, _⟩ := h; rfl
  · have S := sc__law_moor
    obtain ⟨q, t, n, rfl, hq, ht, hn, hn9, k⟩ := h
    refine ⟨_, (pss_cons (ps_if (pt_cmpR op_gt (pe_ix ix_seq (pv 0) pe_int (fun _ _ => rfl)) pe_int (nomark _)) (pss_cons (ps_set (i := 2) S.nd rfl (by first | exact .inl rfl | exact .inr rfl) (pe_callTy call_intU (by rfl) T.n_int PyProof.Rows.boot_int (pa_cons (pe_ix ix_seq (pv 0) pe_int (fun _ _ => rfl)) pa_nil)))
      (pss_cons (ps_asg (pe_op op_fdivW (pv 2) (pv 1)) (pg_sub (pv 0) pe_int set_list))
      (pss_one (ps_ret (pe_op op_mod (pe_callTy call_intU (by rfl) T.n_int PyProof.Rows.boot_int (pa_cons (pv 2) pa_nil)) (pv 1)))))) pss_nil)
      (pss_cons (ps_set (i := 3) S.nd rfl (by first | exact .inl rfl | exact .inr rfl) (pe_ix ix_seq (pv 0) pe_int (fun _ _ => rfl)))
      (pss_cons (ps_asg (pe_op op_addU (pv 3) pe_int) (pg_sub (pv 0) pe_int set_list))
      (pss_cons (ps_set (i := 4) S.nd rfl (by first | exact .inl rfl | exact .inr rfl) (pe_op op_addU (pe_op op_mulU pe_int (pv 3)) pe_int))
      (pss_cons (ps_if (pt_cmpR (op_neU hr.units) (pe_ix ix_seq (pv 0) pe_int (fun _ _ => rfl)) (pe_lst pa_nil) (nomark _)) (pss_one (ps_set (i := 4) S.nd rfl (by first | exact .inl rfl | exact .inr rfl) (pe_ix ix_seq (pe_ix ix_seq (pv 0) pe_int (fun _ _ => rfl)) (pe_op op_mod (pe_callTy call_intU (by rfl) T.n_int PyProof.Rows.boot_int (pa_cons (pv 3) pa_nil)) (pe_callB call_lenU (by rfl) T.n_len PySem.boot_len (pa_cons (pe_ix ix_seq (pv 0) pe_int (fun _ _ => rfl)) pa_nil))) (fun _ _ => rfl)))) pss_nil)
      (pss_cons (ps_if (PW.pt (pw_and (pt_cmpR op_lt (pv 3) (pe_callB call_lenU (by rfl) T.n_len PySem.boot_len (pa_cons (pe_ix ix_seq (pv 0) pe_int (fun _ _ => rfl)) pa_nil)) (nomark _)) (pw_and1 (pt_cmpR op_ge (pe_callB call_absU (by rfl) T.n_abs (show bootBuiltins "abs" = some (.builtin "abs") by decide +kernel) (pa_cons (pv 4) pa_nil)) (pe_op op_pow pe_int pe_int) (nomark _))))) (pss_cons (ps_set (i := 2) S.nd rfl (by first | exact .inl rfl | exact .inr rfl) (pe_op op_addU (pe_op op_mulU pe_int (pe_op op_sub (pe_callB call_absU (by rfl) T.n_abs (show bootBuiltins "abs" = some (.builtin "abs") by decide +kernel) (pa_cons (pv 4) pa_nil)) (pe_op op_pow pe_int pe_int))) (pe_callTy call_intU (by rfl) T.n_int PyProof.Rows.boot_int (pa_cons (pe_cmpR op_lt (pv 4) pe_int (nomark _)) pa_nil))))
      (pss_cons (ps_asg (pe_op op_fdivW (pv 2) (pv 1)) (pg_sub (pv 0) pe_int set_list))
      (pss_one (ps_ret (pe_op op_mod (pe_callTy call_intU (by rfl) T.n_int PyProof.Rows.boot_int (pa_cons (pv 2) pa_nil)) (pv 1)))))) pss_nil)
      (pss_cons (ps_set (i := 5) S.nd rfl (by first | exact .inl rfl | exact .inr rfl) (pe_op op_mod (pe_callTy call_intU (by rfl) T.n_int PyProof.Rows.boot_int (pa_cons (pe_op op_pow (pe_op op_addU (pe_op op_addU (pe_op op_mod (pe_callTy call_intU (by rfl) T.n_int PyProof.Rows.boot_int (pa_cons (pv 4) pa_nil)) pe_int) (pe_op op_mulU pe_int (pv 3))) pe_int) pe_int) pa_nil)) pe_int))
      (pss_cons (ps_set (i := 5) S.nd rfl (by first | exact .inl rfl | exact .inr rfl) (pe_op op_mod (pe_callTy call_intU (by rfl) T.n_int PyProof.Rows.boot_int (pa_cons (pe_op op_pow (pe_op op_addU (pe_op op_addU (pe_op op_mulU (pv 5) (pe_op op_addU (pe_op op_mulU pe_int (pv 3)) pe_int)) (pe_op op_mulU (pe_op op_mulU pe_int (pv 3)) (pv 3))) pe_int) pe_int) pa_nil)) pe_int))
      (pss_one (ps_ret (pe_op op_mod (pe_callTy call_intU (by rfl) T.n_int PyProof.Rows.boot_int (pa_cons (pe_op op_fdivW (pv 5) pe_int) pa_nil)) (pv 1)))))))))))), ?_⟩
    obtain ⟨c, ns, r, eq, hc, ncq, hns, hr0, ht0⟩ := hq
    walk_at "mf"
    refine g_ix (.inl (seqU eq)) (v := .int r) rfl ?_
    walk_at "mf"
    refine g_ite (fun h => ?_) (fun h => ?_)
    · walk_at "mf"
      refine g_ix (.inl (seqU eq)) (v := .int r) rfl ?_
      walk_at "mf"
      refine g_setL eq (j := 2) rfl ?_
      walk_at "mf"
      exact k t _ _ upd_x ⟨c, ns, _, upd_same, upd_x.seq ncq hc, ncq, hns, Int.ediv_nonneg hr0 (by omega), ht0⟩ (by omega) (by omega) (Int.emod_nonneg _ (by omega)) (Int.emod_lt_of_pos _ hn)
    · walk_at "mf"
      refine g_ix (.inl (seqU eq)) (v := .int t) rfl ?_
      walk_at "mf"
      refine g_setL eq (j := 1) rfl ?_
      have eq1 : (upd H q (.lst [.ref c, .int (t + 1), .int r])) q = some (.lst [.ref c, .int (t + 1), .int r]) := upd_same
      have hc1 : SqL K (upd H q (.lst [.ref c, .int (t + 1), .int r])) c (ns.map V.int) := upd_x.seq ncq hc
      have sx1 : SameX q H (upd H q (.lst [.ref c, .int (t + 1), .int r])) := upd_x
      have es : [V.ref c, .int t, .int r].set 1 (.int (t + 1)) = [.ref c, .int (t + 1), .int r] := rfl
      rw [es]
      generalize upd H q (.lst [.ref c, .int (t + 1), .int r]) = Hb at *
      walk_at "mf"
      refine g_ix (.inl (seqU eq1)) (v := .ref c) rfl ?_
      walk_at "mf"
      refine g_newL (by show 0 ≤ sizeLine; decide) fun p H2 hp s2 e2 => ?_
      have eq2 := s2 _ _ eq1
      have hc2 := s2.seq hc1
      have sx := sx1.trans (Same.x s2)
      walk_at "mf"
      refine g_neNil hc2 (seqU e2) ?_
      walk_at "mf"
      refine g_ite (fun h2 => ?_) (fun h2 => ?_)
      · walk_at "mf"
        refine g_ix (.inl (seqU eq2)) (v := .ref c) rfl ?_
        walk_at "mf"
        refine g_ix (.inl (seqU eq2)) (v := .ref c) rfl ?_
        walk_at "mf"
        refine g_len (.inl hc2) ?_
        have hpos : 0 < ((ns.map V.int).length : Int) := by
          cases ns with
          | nil => cases h2
          | cons z l => rw [List.map_cons, List.length_cons]; omega
        walk_at "mf"
        obtain ⟨z, ez⟩ : ∃ z, atI (ns.map V.int) (t % ((ns.map V.int).length : Int)) = some (.int z) := by
          have b1 := Int.emod_nonneg t (Int.ne_of_gt hpos)
          have b2 := Int.emod_lt_of_pos t hpos
          have b3 : (t % ((ns.map V.int).length : Int)).toNat < ns.length := by
            rw [List.length_map] at b1 b2 ⊢
            omega
          refine ⟨ns[(t % ((ns.map V.int).length : Int)).toNat], ?_⟩
          refine at_of (j := (t % ((ns.map V.int).length : Int)).toNat) (by omega) ?_
          rw [List.getElem?_map, List.getElem?_eq_getElem b3]
          rfl
        refine g_ix (.inl hc2) ez ?_
        walk_at "mf"
        refine g_ix (.inl (seqU eq2)) (v := .ref c) rfl ?_
        walk_at "mf"
        refine g_len (.inl hc2) ?_
        walk_at "mf"
        refine g_ite (fun h3 => ?_) (fun h3 => ?_)
        · walk_at "mf"
          refine g_ite (fun h4 => ?_) (fun h4 => ?_)
          · have h5 := of_decide_eq_true h4
            rw [show (10 : Int) ^ (18 : Int).toNat = 1000000000000000000 by decide] at h5
            walk_at "mf"
            refine g_setL eq2 (j := 2) rfl ?_
            walk_at "mf"
            rw [show (10 : Int) ^ (18 : Int).toNat = 1000000000000000000 by decide]
            exact k (t + 1) _ _ (sx.trans upd_x) ⟨c, ns, _, upd_same, upd_x.seq ncq hc2, ncq, hns, Int.ediv_nonneg (by split <;> omega) (by omega), by omega⟩ (by omega) (by omega) (Int.emod_nonneg _ (by omega)) (Int.emod_lt_of_pos _ hn)
          · walk_at "mf"
            walk_at "mf"
            refine g_pow (by decide) (by decide) (stir_bd (Int.emod_nonneg _ (by decide)) (Int.lt_of_lt_of_le (Int.emod_lt_of_pos _ (by decide)) (by decide)) ht0 ht (by decide) (by decide) (by decide) (by decide) (by decide) (by decide)) ?_
            walk_at "mf"
            exact k (t + 1) _ _ sx ⟨c, ns, r, eq2, hc2, ncq, hns, hr0, by omega⟩ (by omega) (by omega) (Int.emod_nonneg _ (by omega)) (Int.emod_lt_of_pos _ hn)
        · walk_at "mf"
          walk_at "mf"
          refine g_pow (by decide) (by decide) (stir_bd (Int.emod_nonneg _ (by decide)) (Int.lt_of_lt_of_le (Int.emod_lt_of_pos _ (by decide)) (by decide)) ht0 ht (by decide) (by decide) (by decide) (by decide) (by decide) (by decide)) ?_
          walk_at "mf"
          exact k (t + 1) _ _ sx ⟨c, ns, r, eq2, hc2, ncq, hns, hr0, by omega⟩ (by omega) (by omega) (Int.emod_nonneg _ (by omega)) (Int.emod_lt_of_pos _ hn)
      · walk_at "mf"
        walk_at "mf"
        refine g_ix (.inl (seqU eq2)) (v := .ref c) rfl ?_
        walk_at "mf"
        refine g_len (.inl hc2) ?_
        walk_at "mf"
        refine g_ite (fun h3 => ?_) (fun h3 => ?_)
        · walk_at "mf"
          refine g_ite (fun h4 => ?_) (fun h4 => ?_)
          · have h5 := of_decide_eq_true h4
            rw [show (10 : Int) ^ (18 : Int).toNat = 1000000000000000000 by decide] at h5
            walk_at "mf"
            refine g_setL eq2 (j := 2) rfl ?_
            walk_at "mf"
            rw [show (10 : Int) ^ (18 : Int).toNat = 1000000000000000000 by decide]
            exact k (t + 1) _ _ (sx.trans upd_x) ⟨c, ns, _, upd_same, upd_x.seq ncq hc2, ncq, hns, Int.ediv_nonneg (by split <;> omega) (by omega), by omega⟩ (by omega) (by omega) (Int.emod_nonneg _ (by omega)) (Int.emod_lt_of_pos _ hn)
          · walk_at "mf"
            walk_at "mf"
            refine g_pow (by decide) (by decide) (stir_bd (Int.emod_nonneg _ (by decide)) (Int.lt_of_lt_of_le (Int.emod_lt_of_pos _ (by decide)) (by decide)) ht0 ht (by decide) (by decide) (by decide) (by decide) (by decide) (by decide)) ?_
            walk_at "mf"
            exact k (t + 1) _ _ sx ⟨c, ns, r, eq2, hc2, ncq, hns, hr0, by omega⟩ (by omega) (by omega) (Int.emod_nonneg _ (by omega)) (Int.emod_lt_of_pos _ hn)
        · walk_at "mf"
          walk_at "mf"
          refine g_pow (by decide) (by decide) (stir_bd (Int.emod_nonneg _ (by decide)) (Int.lt_of_lt_of_le (Int.emod_lt_of_pos _ (by decide)) (by decide)) ht0 ht (by decide) (by decide) (by decide) (by decide) (by decide) (by decide)) ?_
          walk_at "mf"
          exact k (t + 1) _ _ sx ⟨c, ns, r, eq2, hc2, ncq, hns, hr0, by omega⟩ (by omega) (by omega) (Int.emod_nonneg _ (by omega)) (Int.emod_lt_of_pos _ hn)
theorem ok__law_pick (c : Cn) (T : Tx c) : Cl c 2 "_law_pick" s__law_pick ["quay", "some"] (sp_pick c.K) := by
  obtain ⟨P, w, K, mg, base⟩ := c
  have C__law_moor := ok__law_moor _ T
  refine De.cl (N := ["quay", "some"]) T.d__law_pick sc__law_pick (fun vs H Q E h => ?_) (fun f0 cdv A outer s H vs Q E hA hr h => ?_)
  · obtain ⟨q, a, t, xs, rfl, _⟩ := h; rfl
  · have S := sc__law_pick
    obtain ⟨q, a, t, xs, rfl, hq, ht, na, hs, hne, hl, k⟩ := h
    refine ⟨_, (pss_one (ps_ret (pe_ix ix_seq (pv 1) (pe_f C__law_moor hA hr (by decide) pl__law_moor (by rfl) (pa_cons (pv 0) (pa_cons (pe_callB call_lenU (by rfl) T.n_len PySem.boot_len (pa_cons (pv 1) pa_nil)) pa_nil))) (fun _ _ => rfl)))), ?_⟩
    have hp : 0 < xs.length := by
      cases xs with
      | nil => exact absurd rfl hne
      | cons z r => exact Nat.succ_pos _
    walk_at "mf"
    refine g_len hs ?_
    walk_at "mf"
    refine ⟨q, t, _, rfl, hq, ht, by omega, ?_, fun t' H' i sx hq' h1 h2 h3 h4 => ?_⟩
    · rw [Int.natAbs_natCast]
      exact Nat.lt_of_lt_of_le ((Nat.log2_lt (by omega)).mpr (show xs.length < 2 ^ 10 by omega)) (by decide)
    · walk_at "mf"
      have hi : i.toNat < xs.length := by omega
      refine g_ix (hs.go sx na) (at_of (j := i.toNat) (by omega) (List.getElem?_eq_getElem hi)) ?_
      exact k t' H' _ sx hq' h1 h2 (List.getElem_mem hi)
end Mf
namespace Mf
open PySem PySem.Spec PyProof.Rows L2
local macro_rules | `(tactic| walk_at "mf1") => `(tactic| first
  | ((with_reducible apply g_var); exact rfl)
  | with_reducible first
    | refine g_c ?_ | refine g_op ?_ | refine g_un ?_ | refine g_cb ?_ | refine g_cl ?_ | refine g_clk ?_ | refine g_nil ?_ | refine g_cons ?_
    | refine g_tB ?_ | refine g_test ?_ | refine g_bl ?_ | refine g_and ?_ | refine g_or ?_ | refine g_not ?_ | refine g_andV ?_ | refine g_orV ?_ | refine g_notV ?_
    | refine g_if ?_ | refine g_ifS ?_ | refine g_seq ?_ | refine g_next ?_ | refine g_ret ?_ | refine g_drop ?_ | refine g_asg ?_ | refine g_name ?_ | refine g_sub ?_
    | refine g_int ?_ | refine g_intB ?_ | refine g_abs ?_ | refine g_I0 ?_ | refine g_addI ?_ | refine g_U ?_ | refine g_isNn ?_ | refine g_isNi ?_ | refine g_notN ?_ | refine g_notT1 ?_ | refine g_notT2 ?_ | refine g_notT3 ?_ | refine g_notT4 ?_ | refine g_notTb ?_ | refine g_notTi ?_ | refine g_eqI ?_ | refine g_neI ?_ | refine g_neSs ?_ | refine g_neS ?_ | refine g_eqS ?_
    | refine g_iteT ?_ | refine g_iteF ?_ | refine g_lst ?_ | refine g_tup ?_ | refine g_seqP ?_ | refine g_sl ?_ | refine g_noPart ?_ | refine g_part ?_ | refine g_ii ?_ | refine g_par ?_ | refine g_par3 ?_ | refine g_vv ?_ | refine g_vvv ?_ | refine g_reprB ?_ | refine g_lcL ?_ | refine g_lcR ?_
  | ((with_reducible refine g_mod ?_ ?_); (first | omega | decide))
  | ((with_reducible refine g_div ?_ ?_ ?_); (first | omega | decide); (first | assumption | decide))
  | ((with_reducible refine g_mulL ?_ ?_ ?_); (first | omega | decide); (first | omega | decide))
  | ((with_reducible refine g_mulR ?_ ?_ ?_); (first | omega | decide); (first | omega | decide))
  | ((with_reducible refine g_pow ?_ ?_ ?_ ?_); decide; decide; (first | omega | decide))
  | dsimp only)
local macro_rules | `(tactic| walk_at "mf1s") => `(tactic| first
  | ((with_reducible apply g_var); exact rfl)
  | with_reducible first
    | refine g_c ?_ | refine g_op ?_ | refine g_un ?_ | refine g_cb ?_ | refine g_cl ?_ | refine g_clk ?_ | refine g_nil ?_ | refine g_cons ?_
    | refine g_tB ?_ | refine g_test ?_ | refine g_bl ?_ | refine g_and ?_ | refine g_or ?_ | refine g_not ?_ | refine g_andV ?_ | refine g_orV ?_ | refine g_notV ?_
    | refine g_if ?_ | refine g_ifS ?_ | refine g_next ?_ | refine g_ret ?_ | refine g_drop ?_ | refine g_asg ?_ | refine g_name ?_ | refine g_sub ?_
    | refine g_int ?_ | refine g_intB ?_ | refine g_abs ?_ | refine g_I0 ?_ | refine g_addI ?_ | refine g_U ?_ | refine g_isNn ?_ | refine g_isNi ?_ | refine g_notN ?_ | refine g_notT1 ?_ | refine g_notT2 ?_ | refine g_notT3 ?_ | refine g_notT4 ?_ | refine g_notTb ?_ | refine g_notTi ?_ | refine g_eqI ?_ | refine g_neI ?_ | refine g_neSs ?_ | refine g_neS ?_ | refine g_eqS ?_
    | refine g_iteT ?_ | refine g_iteF ?_ | refine g_lst ?_ | refine g_tup ?_ | refine g_seqP ?_ | refine g_sl ?_ | refine g_noPart ?_ | refine g_part ?_ | refine g_ii ?_ | refine g_par ?_ | refine g_par3 ?_ | refine g_vv ?_ | refine g_vvv ?_ | refine g_reprB ?_ | refine g_lcL ?_ | refine g_lcR ?_
  | ((with_reducible refine g_mod ?_ ?_); (first | omega | decide))
  | ((with_reducible refine g_div ?_ ?_ ?_); (first | omega | decide); (first | assumption | decide))
  | ((with_reducible refine g_mulL ?_ ?_ ?_); (first | omega | decide); (first | omega | decide))
  | ((with_reducible refine g_mulR ?_ ?_ ?_); (first | omega | decide); (first | omega | decide))
  | ((with_reducible refine g_pow ?_ ?_ ?_ ?_); decide; decide; (first | omega | decide))
  | dsimp only)
local macro_rules | `(tactic| walk_at "mfs") => `(tactic| repeat walk_at "mf1s")
local macro_rules | `(tactic| walk_at "mf") => `(tactic| repeat walk_at "mf1")
local macro_rules | `(tactic| walk_at "ed") => `(tactic| repeat (first
  | with_reducible first
    | exact eds_nil | apply eds_cons | exact ed_int | exact ed_bl | exact ed_non | apply ed_neg
  | ((with_reducible apply ed_str); decide)
  | ((with_reducible apply ed_var); (exact rfl); assumption)
  | ((with_reducible apply ed_dict0); assumption)
  | ((with_reducible apply ed_dict2); assumption)
  | ((with_reducible apply ed_tup); assumption)
  | ((with_reducible apply ed_lst); assumption)
  | (with_reducible apply ed_pow)
  | (with_reducible apply ed_mul)
  | (exact ⟨by decide, by decide, by decide⟩)
  | (show List.length _ ≤ 1000; simp only [List.length_cons, List.length_nil]; decide)))

def sp_value (K : PySem.W.Frag) : Sp := fun vs H Q _ => ∃ (q : Addr) (t : Int), vs = [.ref q] ∧ Qy K q t H ∧ t ≤ 999990 ∧
  ∀ t' H' v d, SameX q H H' → Qy K q t' H' → t ≤ t' → t' ≤ t + 2 → Dq q K H' v d → okV d = true → Q v H'
theorem ok__law_is_integer (c : Cn) (T : Tx c) : Cl c 1 "_law_is_integer" s__law_is_integer ["value"] (sp_isint c.K) := by
  obtain ⟨P, w, K, mg, base⟩ := c
  refine De.cl (N := ["value"]) T.d__law_is_integer sc__law_is_integer (fun vs H Q E h => ?_) (fun f0 cdv A outer s H vs Q E hA hr h => ?_)
  · obtain ⟨q, v, d, rfl, _⟩ := h; rfl
  · have S := sc__law_is_integer
    obtain ⟨q, v, d, rfl, hd, k⟩ := h
    refine ⟨_, (pss_one (ps_ret (pe_and (pe_callB call_isi (by rfl) T.n_isinstance (show bootBuiltins "isinstance" = some (.builtin "isinstance") by decide +kernel) (pa_cons (pv 0) (pa_cons (pe_bltn (v := .ty "int") (by rfl) T.n_int (show bootBuiltins "int" = some (.type "int") by decide +kernel) rfl) pa_nil))) (pe_and (pe_cmpR (op_notT (b := true)) (pv 0) pe_bl (nomark _)) (pe_one (pe_cmpR (op_notT (b := false)) (pv 0) pe_bl (nomark _))))))), ?_⟩
    walk_at "mf"
    refine g_isiI hd ?_
    walk_at "mf"
    refine g_ite (fun h => ?_) (fun h => ?_)
    · cases hd with
      | bl b => cases b with
        | true =>
          walk_at "mf"
          exact k
        | false =>
          walk_at "mf"
          exact k
      | int i =>
        walk_at "mf"
        exact k
      | _ => cases h
    · rw [show isIntD d = false by cases d <;> first | rfl | cases h] at k
      exact k
theorem ok__law_is_fraction (c : Cn) (T : Tx c) : Cl c 2 "_law_is_fraction" s__law_is_fraction ["value"] (sp_isfr c.K) := by
  obtain ⟨P, w, K, mg, base⟩ := c
  have C__law_is_integer := ok__law_is_integer _ T
  refine De.cl (N := ["value"]) T.d__law_is_fraction sc__law_is_fraction (fun vs H Q E h => ?_) (fun f0 cdv A outer s H vs Q E hA hr h => ?_)
  · obtain ⟨q, v, d, rfl, _⟩ := h; rfl
  · have S := sc__law_is_fraction
    obtain ⟨q, v, d, rfl, hd, k⟩ := h
    refine ⟨_, (pss_cons (ps_if (pt_val (pe_f C__law_is_integer hA hr (by decide) pl__law_is_integer (by rfl) (pa_cons (pv 0) pa_nil))) (pss_one (ps_ret pe_bl)) pss_nil)
      (pss_cons (ps_if (PW.pt (pw_or (pt_not (pt_val (pe_isSeq (by rfl) T.n_isinstance (by rfl) T.n_list (by rfl) T.n_tuple (pv 0)))) (pw_or1 (pt_cmpR (op_neU hr.units) (pe_callB call_lenU (by rfl) T.n_len PySem.boot_len (pa_cons (pv 0) pa_nil)) pe_int (nomark _))))) (pss_one (ps_ret pe_bl)) pss_nil)
      (pss_one (ps_ret (pe_and (pe_f C__law_is_integer hA hr (by decide) pl__law_is_integer (by rfl) (pa_cons (pe_ix ix_seq (pv 0) pe_int (fun _ _ => rfl)) pa_nil)) (pe_and (pe_f C__law_is_integer hA hr (by decide) pl__law_is_integer (by rfl) (pa_cons (pe_ix ix_seq (pv 0) pe_int (fun _ _ => rfl)) pa_nil)) (pe_one (pe_cmpR op_ge (pe_ix ix_seq (pv 0) pe_int (fun _ _ => rfl)) pe_int (nomark _))))))))), ?_⟩
    walk_at "mf"
    refine ⟨q, v, d, rfl, hd, ?_⟩
    walk_at "mf"
    refine g_ite (fun h1 => ?_) (fun h1 => ?_)
    · walk_at "mf"
      rw [frD_int h1] at k
      exact k
    · walk_at "mf"
      refine g_seqQ hd ?_
      walk_at "mf"
      refine g_ite (fun h2 => ?_) (fun h2 => ?_)
      · walk_at "mf"
        rw [frD_no h1 (by simpa using h2)] at k
        exact k
      · obtain ⟨a, xs, ds, rfl, na, hs, hall, ed⟩ := hd.seq (by simpa using h2)
        walk_at "mf"
        refine g_len hs ?_
        walk_at "mf"
        refine g_ite (fun h3 => ?_) (fun h3 => ?_)
        · walk_at "mf"
          rw [(frD_two ed (by rw [← hall.len]; simp at h3; omega)).1] at k
          exact k
        · obtain ⟨x, y, dx, dy, rfl, rfl, hx, hy⟩ := two_of hall (by simp at h3; omega)
          rw [(frD_of ed).1] at k
          walk_at "mf"
          refine g_ix hs rfl ?_
          walk_at "mf"
          refine ⟨q, x, dx, rfl, hx, ?_⟩
          walk_at "mf"
          refine g_ite (fun h4 => ?_) (fun h4 => ?_)
          · walk_at "mf"
            refine g_ix hs rfl ?_
            walk_at "mf"
            refine ⟨q, y, dy, rfl, hy, ?_⟩
            walk_at "mf"
            refine g_ite (fun h5 => ?_) (fun h5 => ?_)
            · obtain ⟨rfl, ey⟩ := hy.int_of h5
              walk_at "mf"
              refine g_ix hs rfl ?_
              walk_at "mf"
              rw [h4, Bool.true_and, ey] at k
              exact k
            · rw [h4, Bool.true_and, show posD dy = false by cases dy <;> first | rfl | cases h5] at k
              exact k
          · rw [h4] at k
            exact k
theorem ok__law_value (c : Cn) (T : Tx c) : Cl c 3 "_law_value" s__law_value ["quay"] (sp_value c.K) := by
  obtain ⟨P, w, K, mg, base⟩ := c
  have C__law_moor := ok__law_moor _ T
  have C__law_pick := ok__law_pick _ T
  refine De.cl (N := ["quay", "some"]) T.d__law_value sc__law_value (fun vs H Q E h => ?_) (fun f0 cdv A outer s H vs Q E hA hr h => ?_)
  · obtain ⟨q, t, rfl, _⟩ := h; rfl
  · have S := sc__law_value
    obtain ⟨q, t, rfl, hq, ht, k⟩ := h
    refine ⟨_, (pss_cons (ps_set (i := 1) S.nd rfl (by first | exact .inl rfl | exact .inr rfl) (pe_lst (pa_cons pe_int (pa_cons pe_int (pa_cons pe_int (pa_cons (pe_un un_neg pe_int) (pa_cons (pe_op op_pow pe_int pe_int) (pa_cons (pe_un un_neg (pe_op op_pow pe_int pe_int)) (pa_cons pe_bl (pa_cons pe_bl (pa_cons pe_non (pa_cons pe_str (pa_cons pe_str (pa_cons (pe_tup (pa_cons pe_int pa_nil)) (pa_cons (pe_lst pa_nil) (pa_cons pe_dnewK (pa_cons (pe_tup (pa_cons pe_int (pa_cons pe_int pa_nil))) (pa_cons (pe_lst (pa_cons pe_int (pa_cons pe_int pa_nil))) (pa_cons (pe_tup (pa_cons pe_int (pa_cons pe_int pa_nil))) (pa_cons (pe_lst (pa_cons pe_int (pa_cons (pe_un un_neg pe_int) pa_nil))) (pa_cons (pe_tup (pa_cons pe_int (pa_cons pe_bl pa_nil))) (pa_cons (pe_tup (pa_cons pe_non (pa_cons pe_int pa_nil))) pa_nil))))))))))))))))))))))
      (pss_one (ps_ret (pe_f C__law_pick hA hr (by decide) pl__law_pick (by rfl) (pa_cons (pv 0) (pa_cons (pe_op op_addU (pv 1) (pe_lst (pa_cons (pe_op op_sub (pe_f C__law_moor hA hr (by decide) pl__law_moor (by rfl) (pa_cons (pv 0) (pa_cons pe_int pa_nil))) pe_int) (pa_cons (pe_lst (pa_cons pe_int (pa_cons pe_int pa_nil))) (pa_cons (pe_tup (pa_cons pe_bl (pa_cons pe_int pa_nil))) (pa_cons (pe_tup (pa_cons (pe_tup (pa_cons pe_int (pa_cons pe_int pa_nil))) (pa_cons pe_int pa_nil))) (pa_cons (pe_lst (pa_cons pe_int (pa_cons pe_int pa_nil))) (pa_cons (pe_tup (pa_cons pe_int (pa_cons pe_int (pa_cons pe_int pa_nil)))) (pa_cons pe_str pa_nil))))))))) pa_nil)))))), ?_⟩
    obtain ⟨o, hqo⟩ := hq.at
    refine g_seq (g_asg (g_lst ?_))
    apply EvDs.run (q := q) (K := K)
    case h => walk_at "ed"
    intro vs H1 s1 hd1
    refine g_newL (by rw [hd1.len]; exact Nat.le_of_lt (small1000 (by decide))) fun p H2 hp s2 e2 => ?_
    have hq2 : Qy K q t H2 := (hq.same s1).same s2
    have npq : p ≠ q := (hq.same s1).ne hp
    walk_at "mf"
    refine ⟨q, t, 9, rfl, hq2, by omega, by decide, by decide, fun t3 H3 i sx3 hq3 h1 h2 h3 h4 => ?_⟩
    refine g_c (g_I0 ?_)
    obtain ⟨o3, hqo3⟩ := hq3.at
    apply EvDs.run (q := q) (K := K)
    case h => walk_at "ed"
    intro ws H4 s4 hd4
    refine g_newL (by rw [List.length_cons, hd4.len]; exact Nat.le_of_lt (small1000 (by decide))) fun p5 H5 hp5 s5 e5 => ?_
    have e25 : H5 p = some (.lst vs) := s5 _ _ (s4 _ _ (sx3 _ _ npq e2))
    refine g_cat e25 e5 (by rw [List.length_cons, hd1.len, hd4.len]; exact Nat.le_of_lt (small1000 (by decide))) fun p6 H6 hp6 s6 e6 => ?_
    refine g_nil ?_
    have hq6 : Qy K q t3 H6 := ((hq3.same s4).same s5).same s6
    have hall : DqAll q K H6 (vs ++ .int (i - 4) :: ws) _ := DqAll.app (hd1.go ((((Same.x s2).trans sx3).trans (Same.x s4)).trans ((Same.x s5).trans (Same.x s6)))) (.cons (.int (i - 4)) (hd4.go ((Same.x s5).trans (Same.x s6))))
    refine ⟨q, p6, t3, _, rfl, hq6, by omega, ((hq3.same s4).same s5).ne hp6, .inl (seqU e6), by simp, by rw [hall.len]; simp only [List.length_append, List.length_cons, List.length_nil]; decide, fun t7 H7 x sx7 hq7 h5 h6 hx => ?_⟩
    obtain ⟨d, md, hxd⟩ := hall.mem hx
    refine k t7 H7 x d (((Same.x s1).trans (Same.x s2)).trans (sx3.trans ((Same.x s4).trans ((Same.x s5).trans ((Same.x s6).trans sx7))))) hq7 (by omega) (by omega) (hxd.go sx7) ?_
    clear hxd hx hall
    simp only [List.cons_append, List.nil_append, List.mem_cons, List.not_mem_nil, or_false] at md
    rcases md with rfl | rfl | rfl | rfl | rfl | rfl | rfl | rfl | rfl | rfl | rfl | rfl | rfl | rfl | rfl | rfl | rfl | rfl | rfl | rfl | rfl | rfl | rfl | rfl | rfl | rfl | rfl <;> first | rfl | decide +kernel
end Mf
namespace Mf
open PySem PySem.Spec PyProof.Rows L2
local macro_rules | `(tactic| walk_at "mf1") => `(tactic| first
  | ((with_reducible apply g_var); exact rfl)
  | with_reducible first
    | refine g_c ?_ | refine g_op ?_ | refine g_un ?_ | refine g_cb ?_ | refine g_cl ?_ | refine g_clk ?_ | refine g_nil ?_ | refine g_cons ?_
    | refine g_tB ?_ | refine g_test ?_ | refine g_bl ?_ | refine g_and ?_ | refine g_or ?_ | refine g_not ?_ | refine g_andV ?_ | refine g_orV ?_ | refine g_notV ?_
    | refine g_if ?_ | refine g_ifS ?_ | refine g_seq ?_ | refine g_next ?_ | refine g_ret ?_ | refine g_drop ?_ | refine g_asg ?_ | refine g_name ?_ | refine g_sub ?_
    | refine g_int ?_ | refine g_intB ?_ | refine g_abs ?_ | refine g_I0 ?_ | refine g_addI ?_ | refine g_U ?_ | refine g_isNn ?_ | refine g_isNi ?_ | refine g_notN ?_ | refine g_notT1 ?_ | refine g_notT2 ?_ | refine g_notT3 ?_ | refine g_notT4 ?_ | refine g_notTb ?_ | refine g_notTi ?_ | refine g_eqI ?_ | refine g_neI ?_ | refine g_neSs ?_ | refine g_neS ?_ | refine g_eqS ?_
    | refine g_iteT ?_ | refine g_iteF ?_ | refine g_lst ?_ | refine g_tup ?_ | refine g_seqP ?_ | refine g_sl ?_ | refine g_noPart ?_ | refine g_part ?_ | refine g_ii ?_ | refine g_par ?_ | refine g_par3 ?_ | refine g_vv ?_ | refine g_vvv ?_ | refine g_reprB ?_ | refine g_lcL ?_ | refine g_lcR ?_
  | ((with_reducible refine g_mod ?_ ?_); (first | omega | decide))
  | ((with_reducible refine g_div ?_ ?_ ?_); (first | omega | decide); (first | assumption | decide))
  | ((with_reducible refine g_mulL ?_ ?_ ?_); (first | omega | decide); (first | omega | decide))
  | ((with_reducible refine g_mulR ?_ ?_ ?_); (first | omega | decide); (first | omega | decide))
  | ((with_reducible refine g_pow ?_ ?_ ?_ ?_); decide; decide; (first | omega | decide))
  | dsimp only)
local macro_rules | `(tactic| walk_at "mf1s") => `(tactic| first
  | ((with_reducible apply g_var); exact rfl)
  | with_reducible first
    | refine g_c ?_ | refine g_op ?_ | refine g_un ?_ | refine g_cb ?_ | refine g_cl ?_ | refine g_clk ?_ | refine g_nil ?_ | refine g_cons ?_
    | refine g_tB ?_ | refine g_test ?_ | refine g_bl ?_ | refine g_and ?_ | refine g_or ?_ | refine g_not ?_ | refine g_andV ?_ | refine g_orV ?_ | refine g_notV ?_
    | refine g_if ?_ | refine g_ifS ?_ | refine g_next ?_ | refine g_ret ?_ | refine g_drop ?_ | refine g_asg ?_ | refine g_name ?_ | refine g_sub ?_
    | refine g_int ?_ | refine g_intB ?_ | refine g_abs ?_ | refine g_I0 ?_ | refine g_addI ?_ | refine g_U ?_ | refine g_isNn ?_ | refine g_isNi ?_ | refine g_notN ?_ | refine g_notT1 ?_ | refine g_notT2 ?_ | refine g_notT3 ?_ | refine g_notT4 ?_ | refine g_notTb ?_ | refine g_notTi ?_ | refine g_eqI ?_ | refine g_neI ?_ | refine g_neSs ?_ | refine g_neS ?_ | refine g_eqS ?_
    | refine g_iteT ?_ | refine g_iteF ?_ | refine g_lst ?_ | refine g_tup ?_ | refine g_seqP ?_ | refine g_sl ?_ | refine g_noPart ?_ | refine g_part ?_ | refine g_ii ?_ | refine g_par ?_ | refine g_par3 ?_ | refine g_vv ?_ | refine g_vvv ?_ | refine g_reprB ?_ | refine g_lcL ?_ | refine g_lcR ?_
  | ((with_reducible refine g_mod ?_ ?_); (first | omega | decide))
  | ((with_reducible refine g_div ?_ ?_ ?_); (first | omega | decide); (first | assumption | decide))
  | ((with_reducible refine g_mulL ?_ ?_ ?_); (first | omega | decide); (first | omega | decide))
  | ((with_reducible refine g_mulR ?_ ?_ ?_); (first | omega | decide); (first | omega | decide))
  | ((with_reducible refine g_pow ?_ ?_ ?_ ?_); decide; decide; (first | omega | decide))
  | dsimp only)
local macro_rules | `(tactic| walk_at "mfs") => `(tactic| repeat walk_at "mf1s")
local macro_rules | `(tactic| walk_at "mf") => `(tactic| repeat walk_at "mf1")
local macro_rules | `(tactic| walk_at "ed") => `(tactic| repeat (first
  | with_reducible first
    | exact eds_nil | apply eds_cons | exact ed_int | exact ed_bl | exact ed_non | apply ed_neg
  | ((with_reducible apply ed_str); decide)
  | ((with_reducible apply ed_var); (exact rfl); assumption)
  | ((with_reducible apply ed_dict0); assumption)
  | ((with_reducible apply ed_dict2); assumption)
  | ((with_reducible apply ed_tup); assumption)
  | ((with_reducible apply ed_lst); assumption)
  | (with_reducible apply ed_pow)
  | (with_reducible apply ed_mul)
  | (exact ⟨by decide, by decide, by decide⟩)
  | (show List.length _ ≤ 1000; simp only [List.length_cons, List.length_nil]; decide)))
def sp_law (K : PySem.W.Frag) : Sp := fun vs H Q _ => ∃ (a : Addr) (ns : List Int), vs = [.ref a] ∧ SqL K H a (ns.map V.int) ∧ ns.length ≤ 63 ∧ ∀ H', Q (.bl true) H'
theorem ok_law (c : Cn) (T : Tx c) : Cl c 5 "law" s_law ["script"] (sp_law c.K) := by
  obtain ⟨P, w, K, mg, base⟩ := c
  have C__law_is_fraction := ok__law_is_fraction _ T
  have C__law_is_integer := ok__law_is_integer _ T
  have C__law_pick := ok__law_pick _ T
  have C__law_quay := ok__law_quay _ T
  have C__law_value := ok__law_value _ T
  have C_is_fraction := ok_is_fraction _ T
  have C_is_integer := ok_is_integer _ T
  have C_is_place := ok_is_place _ T
  have C_is_within := ok_is_within _ T
  refine De.cl (N := ["script", "quay", "turn", "value", "least", "most", "is_so", "due", "other", "third", "odd", "each"]) T.d_law sc_law (fun vs H Q E h => ?_) (fun f0 cdv A outer s H vs Q E hA hr h => ?_)
  · obtain ⟨a, ns, rfl, _⟩ := h; rfl
  · have S := sc_law
    obtain ⟨a, ns, rfl, hS, hlen, k⟩ := h
    refine ⟨_, (pss_cons (ps_set (i := 1) S.nd rfl (by first | exact .inl rfl | exact .inr rfl) (pe_f C__law_quay hA hr (by decide) pl__law_quay (by rfl) (pa_cons (pv 0) pa_nil)))
      (pss_cons (ps_for PassesOwn.never rfl (pi_range1 rfl T.n_range (pa_cons pe_int pa_nil)) (pg_name (i := 2) S.nd rfl (by first | exact .inl rfl | exact .inr rfl)) (pss_cons (ps_par3 (i := 3) (j := 4) (l := 5) (by rfl) S.nd rfl rfl rfl (by decide) (by decide) (by decide) rfl rfl rfl (pa_cons (pe_f C__law_value hA hr (by decide) pl__law_value (by rfl) (pa_cons (pv 1) pa_nil)) (pa_cons (pe_f C__law_pick hA hr (by decide) pl__law_pick (by rfl) (pa_cons (pv 1) (pa_cons (pe_lst (pa_cons pe_non (pa_cons pe_int (pa_cons (pe_un un_neg pe_int) (pa_cons (pe_op op_pow pe_int pe_int) pa_nil))))) pa_nil))) (pa_cons (pe_f C__law_pick hA hr (by decide) pl__law_pick (by rfl) (pa_cons (pv 1) (pa_cons (pe_lst (pa_cons pe_non (pa_cons pe_int (pa_cons pe_int (pa_cons (pe_op op_pow pe_int pe_int) (pa_cons (pe_op op_pow pe_int pe_int) pa_nil)))))) pa_nil))) pa_nil))) (by rfl))
      (pss_cons (ps_set (i := 6) S.nd rfl (by first | exact .inl rfl | exact .inr rfl) (pe_f C__law_is_integer hA hr (by decide) pl__law_is_integer (by rfl) (pa_cons (pv 3) pa_nil)))
      (pss_cons (ps_if (pt_cmpR (op_neU hr.units) (pe_callB (call_reprU hA hr.units) (by rfl) T.n_repr (show bootBuiltins "repr" = some (.builtin "repr") by decide +kernel) (pa_cons (pe_lst (pa_cons (pe_f C_is_integer hA hr (by decide) pl_is_integer (by rfl) (pa_cons (pv 3) pa_nil)) (pa_cons (pe_fk C_is_integer hA hr (by decide) pk_is_integer relR (lenR rfl) (by rfl) (pk_cons (pv 3) pk_nil)) pa_nil))) pa_nil)) (pe_callB (call_reprU hA hr.units) (by rfl) T.n_repr (show bootBuiltins "repr" = some (.builtin "repr") by decide +kernel) (pa_cons (pe_lst (pa_cons (pv 6) (pa_cons (pv 6) pa_nil))) pa_nil)) (nomark _)) (pss_one (ps_ret pe_bl)) pss_nil)
      (pss_cons (ps_set (i := 7) S.nd rfl (by first | exact .inl rfl | exact .inr rfl) (pe_and (pv 6) (pe_and (pe_or (pe_cmpR op_isNU (pv 4) pe_non (nomark _)) (pe_one (pe_cmpR op_ge (pv 3) (pv 4) (nomark _)))) (pe_one (pe_or (pe_cmpR op_isNU (pv 5) pe_non (nomark _)) (pe_one (pe_cmpR op_le (pv 3) (pv 5) (nomark _))))))))
      (pss_cons (ps_if (pt_cmpR (op_neU hr.units) (pe_callB (call_reprU hA hr.units) (by rfl) T.n_repr (show bootBuiltins "repr" = some (.builtin "repr") by decide +kernel) (pa_cons (pe_lst (pa_cons (pe_f C_is_within hA hr (by decide) pl_is_within (by rfl) (pa_cons (pv 3) (pa_cons (pv 4) (pa_cons (pv 5) pa_nil)))) (pa_cons (pe_fk C_is_within hA hr (by decide) pk_is_within relR (lenR rfl) (by rfl) (pk_cons (pv 5) (pk_cons (pv 4) (pk_cons (pv 3) pk_nil)))) pa_nil))) pa_nil)) (pe_callB (call_reprU hA hr.units) (by rfl) T.n_repr (show bootBuiltins "repr" = some (.builtin "repr") by decide +kernel) (pa_cons (pe_lst (pa_cons (pv 7) (pa_cons (pv 7) pa_nil))) pa_nil)) (nomark _)) (pss_one (ps_ret pe_bl)) pss_nil)
      (pss_cons (ps_if (pt_cmpR (op_neU hr.units) (pe_callB (call_reprU hA hr.units) (by rfl) T.n_repr (show bootBuiltins "repr" = some (.builtin "repr") by decide +kernel) (pa_cons (pe_lst (pa_cons (pe_f C_is_fraction hA hr (by decide) pl_is_fraction (by rfl) (pa_cons (pv 3) pa_nil)) (pa_cons (pe_fk C_is_fraction hA hr (by decide) pk_is_fraction relR (lenR rfl) (by rfl) (pk_cons (pv 3) pk_nil)) pa_nil))) pa_nil)) (pe_callB (call_reprU hA hr.units) (by rfl) T.n_repr (show bootBuiltins "repr" = some (.builtin "repr") by decide +kernel) (pa_cons (pe_op op_mulU (pe_lst (pa_cons (pe_f C__law_is_fraction hA hr (by decide) pl__law_is_fraction (by rfl) (pa_cons (pv 3) pa_nil)) pa_nil)) pe_int) pa_nil)) (nomark _)) (pss_one (ps_ret pe_bl)) pss_nil)
      (pss_cons (ps_par (i := 8) (j := 9) (by rfl) S.nd rfl rfl (by decide) rfl rfl (pa_cons (pe_f C__law_value hA hr (by decide) pl__law_value (by rfl) (pa_cons (pv 1) pa_nil)) (pa_cons (pe_f C__law_value hA hr (by decide) pl__law_value (by rfl) (pa_cons (pv 1) pa_nil)) pa_nil)) (by rfl))
      (pss_cons (ps_set (i := 7) S.nd rfl (by first | exact .inl rfl | exact .inr rfl) (pe_and (pe_f C__law_is_fraction hA hr (by decide) pl__law_is_fraction (by rfl) (pa_cons (pv 3) pa_nil)) (pe_one (pe_f C__law_is_fraction hA hr (by decide) pl__law_is_fraction (by rfl) (pa_cons (pv 8) pa_nil)))))
      (pss_cons (ps_if (pt_cmpR (op_neU hr.units) (pe_callB (call_reprU hA hr.units) (by rfl) T.n_repr (show bootBuiltins "repr" = some (.builtin "repr") by decide +kernel) (pa_cons (pe_lst (pa_cons (pe_f C_is_place hA hr (by decide) pl_is_place (by rfl) (pa_cons (pe_lst (pa_cons (pv 3) (pa_cons (pv 8) pa_nil))) pa_nil)) (pa_cons (pe_fk C_is_place hA hr (by decide) pk_is_place relR (lenR rfl) (by rfl) (pk_cons (pe_tup (pa_cons (pv 3) (pa_cons (pv 8) pa_nil))) pk_nil)) pa_nil))) pa_nil)) (pe_callB (call_reprU hA hr.units) (by rfl) T.n_repr (show bootBuiltins "repr" = some (.builtin "repr") by decide +kernel) (pa_cons (pe_lst (pa_cons (pv 7) (pa_cons (pv 7) pa_nil))) pa_nil)) (nomark _)) (pss_one (ps_ret pe_bl)) pss_nil)
      (pss_cons (ps_set (i := 10) S.nd rfl (by first | exact .inl rfl | exact .inr rfl) (pe_f C__law_pick hA hr (by decide) pl__law_pick (by rfl) (pa_cons (pv 1) (pa_cons (pe_lst (pa_cons (pe_lst (pa_cons (pv 3) pa_nil)) (pa_cons (pe_lst (pa_cons (pv 3) (pa_cons (pv 8) (pa_cons (pv 9) pa_nil)))) (pa_cons (pv 3) (pa_cons pe_str (pa_cons (pe_disp (pps_cons pe_int pe_int (pps_cons pe_int pe_int pps_nil)) (by rfl) (by rfl) (fun z => by cases z) (by decide)) (pa_cons pe_non (pa_cons (pe_tup pa_nil) (pa_cons (pe_tup (pa_cons (pe_tup (pa_cons (pe_tup (pa_cons pe_int (pa_cons pe_int pa_nil))) (pa_cons pe_int pa_nil))) pa_nil)) pa_nil))))))))) pa_nil))))
      (pss_cons (ps_set (i := 7) S.nd rfl (by first | exact .inl rfl | exact .inr rfl) (pe_and (pe_isSeq (by rfl) T.n_isinstance (by rfl) T.n_list (by rfl) T.n_tuple (pv 10)) (pe_and (pe_cmpR (op_eqU hr.units) (pe_callB call_lenU (by rfl) T.n_len PySem.boot_len (pa_cons (pv 10) pa_nil)) pe_int (nomark _)) (pe_one (pe_cmpR (op_eqU hr.units) (pe_lc (own := [("each", 11)]) (g := gName 11) rfl S.nd (pi_or (pi_list (pv 10)) (pi_tup (pv 10))) (blkOk_by (N := ["script", "quay", "turn", "value", "least", "most", "is_so", "due", "other", "third", "odd", "each"]) (sc := defScope s_law) (by decide +kernel)) (fun _ _ _ _ _ => pg_name (i := 11) S.nd rfl (Or.inl rfl)) (fun _ _ _ _ _ => pts_one (pt_not (pt_val (pe_f C__law_is_fraction hA hr (by decide) pl__law_is_fraction (by rfl) (pa_cons (pv 11) pa_nil))))) (fun _ _ _ _ _ => (pv 11))) (pe_lst pa_nil) (nomark _))))))
      (pss_one (ps_if (pt_cmpR (op_neU hr.units) (pe_callB (call_reprU hA hr.units) (by rfl) T.n_repr (show bootBuiltins "repr" = some (.builtin "repr") by decide +kernel) (pa_cons (pe_f C_is_place hA hr (by decide) pl_is_place (by rfl) (pa_cons (pv 10) pa_nil)) pa_nil)) (pe_callB (call_reprU hA hr.units) (by rfl) T.n_repr (show bootBuiltins "repr" = some (.builtin "repr") by decide +kernel) (pa_cons (pv 7) pa_nil)) (nomark _)) (pss_one (ps_ret pe_bl)) pss_nil))))))))))))))
      (pss_one (ps_ret pe_bl)))), ?_⟩
    refine g_seq (g_asg ?_)
    walk_at "mf"
    refine ⟨a, ns, rfl, hS, hlen, fun q H1 s1 hq0 hq => ?_⟩
    refine g_name (g_seq ?_)
    refine g_for1 ⟨by decide, by decide⟩ (fun i σ' H' => (∃ s2 s3 s4 s5 s6 s7 s8 s9 s10 s11, σ' = [some (.ref a), some (.ref q), s2, s3, s4, s5, s6, s7, s8, s9, s10, s11]) ∧ ∃ t, Qy K q t H' ∧ t ≤ 10 * (i : Int)) ⟨⟨_, _, _, _, _, _, _, _, _, _, rfl⟩, 0, hq, by omega⟩ (fun i σ' H' hi hP => ?_) (fun σ' H' hP => ?_)
    · obtain ⟨⟨s2, s3, s4, s5, s6, s7, s8, s9, s10, s11, rfl⟩, t, hq, ht⟩ := hP
      have hi8 : i < 8 := hi
      clear hS hlen s1 hq0
      refine g_seq (g_par3 ?_)
      walk_at "mf"
      -- value
      refine ⟨q, t, rfl, hq, by omega, fun t1 H1 v d sx1 hq1 l1 u1 hd hok => ?_⟩
      walk_at "mf"
      refine g_newL (by show 4 ≤ sizeLine; decide) fun p2 H2 hp2 s2' e2 => ?_
      walk_at "mf"
      refine ⟨q, p2, t1, _, rfl, hq1.same s2', by omega, hq1.ne hp2, .inl (seqU e2), by simp, by simp only [List.length_cons, List.length_nil]; decide, fun t3 H3 x3 sx3 hq3 l3 u3 m3 => ?_⟩
      obtain ⟨l, rfl⟩ := mem_bd (ls := [none, some 0, some (-3), some (10 ^ (6 : Int).toNat)]) m3
      have hd3 := hd.go ((Same.x s2').trans sx3)
      walk_at "mf"
      refine g_newL (by show 5 ≤ sizeLine; decide) fun p4 H4 hp4 s4' e4 => ?_
      walk_at "mf"
      refine ⟨q, p4, t3, _, rfl, hq3.same s4', by omega, hq3.ne hp4, .inl (seqU e4), by simp, by simp only [List.length_cons, List.length_nil]; decide, fun t5 H5 x5 sx5 hq5 l5 u5 m5 => ?_⟩
      obtain ⟨m, rfl⟩ := mem_bd (ls := [none, some 3, some 0, some (10 ^ (6 : Int).toNat), some (10 ^ (40 : Int).toNat)]) m5
      have hd5 := hd3.go ((Same.x s4').trans sx5)
      clear hd hd3 e2 e4 hp2 hp4 m3 m5 sx1 sx3 sx5 s2' s4' hq1 hq3
      walk_at "mf"
      -- is_so
      refine ⟨q, v, d, rfl, hd5, ?_⟩
      walk_at "mf"
      refine ⟨q, v, d, rfl, hd5, ?_⟩
      walk_at "mf"
      refine ⟨q, v, d, rfl, hd5, ?_⟩
      walk_at "mf"
      refine g_newL (by show 2 ≤ sizeLine; decide) fun p6 H6 hp6 s6' e6 => ?_
      walk_at "mf"
      refine g_reprBB e6 ?_
      walk_at "mf"
      refine g_newL (by show 2 ≤ sizeLine; decide) fun p7 H7 hp7 s7' e7 => ?_
      walk_at "mf"
      refine g_reprBB e7 ?_
      have hq7 := (hq5.same s6').same s7'
      have hd7 := hd5.go ((Same.x s6').trans (Same.x s7'))
      clear e6 e7 hp6 hp7 s6' s7' hd5 hq5
      walk_at "mfs"
      -- due
      refine g_seq (g_asg ?_)
      refine cut_te (v := .bl (wthD d l m)) (fun Q' k' => ?_) ?_
      · walk_at "mf"
        refine g_ite (fun h => ?_) (fun h => ?_)
        · obtain ⟨rfl, hv⟩ := hd7.int_of h
          rw [show wthD d l m = (loB l (valD d) && hiB m (valD d)) by unfold wthD; rw [h]; rfl] at k'
          cases l with
          | none => cases m with
            | none =>
              dsimp only [bdV]
              walk_at "mf"
              exact k'
            | some m =>
              dsimp only [bdV]
              walk_at "mf"
              exact k'
          | some l => cases m with
            | none =>
              dsimp only [bdV]
              walk_at "mf"
              refine g_ite (fun h1 => ?_) (fun h1 => ?_)
              · walk_at "mf"
                rw [show loB (some l) (valD d) = true from h1] at k'
                exact k'
              · rw [show loB (some l) (valD d) = false from h1] at k'
                exact k'
            | some m =>
              dsimp only [bdV]
              walk_at "mf"
              refine g_ite (fun h1 => ?_) (fun h1 => ?_)
              · walk_at "mf"
                rw [show loB (some l) (valD d) = true from h1] at k'
                exact k'
              · rw [show loB (some l) (valD d) = false from h1] at k'
                exact k'
        · rw [show wthD d l m = false by unfold wthD; rw [h]; rfl] at k'
          exact k'
      walk_at "mf"
      refine ⟨q, v, d, l, m, rfl, hd7, ?_⟩
      walk_at "mf"
      refine ⟨q, v, d, l, m, rfl, hd7, ?_⟩
      walk_at "mf"
      refine g_newL (by show 2 ≤ sizeLine; decide) fun p6 H8 hp6 s6' e6 => ?_
      walk_at "mf"
      refine g_reprBB e6 ?_
      walk_at "mf"
      refine g_newL (by show 2 ≤ sizeLine; decide) fun p7 H9 hp7 s7' e7 => ?_
      walk_at "mf"
      refine g_reprBB e7 ?_
      have hq9 := (hq7.same s6').same s7'
      have hd9 := hd7.go ((Same.x s6').trans (Same.x s7'))
      clear e6 e7 hp6 hp7 s6' s7' hd7 hq7
      walk_at "mf"
      -- is_fraction
      refine ⟨q, v, d, rfl, hd9, ?_⟩
      walk_at "mf"
      refine ⟨q, v, d, rfl, hd9, ?_⟩
      walk_at "mf"
      refine g_newL (by show 2 ≤ sizeLine; decide) fun p6 H10 hp6 s6' e6 => ?_
      walk_at "mf"
      refine g_reprBB e6 ?_
      walk_at "mf"
      refine ⟨q, v, d, rfl, hd9.go (Same.x s6'), ?_⟩
      walk_at "mf"
      refine g_newL (by show 1 ≤ sizeLine; decide) fun p7 H11 hp7 s7' e7 => ?_
      walk_at "mf"
      refine g_rep e7 (by decide) (by decide) (by show 1 * 2 ≤ sizeLine; decide) fun p8 H12 hp8 s8' e8 => ?_
      walk_at "mf"
      refine g_reprBB e8 ?_
      have hq12 := ((hq9.same s6').same s7').same s8'
      have hd12 := hd9.go ((Same.x s6').trans ((Same.x s7').trans (Same.x s8')))
      clear e6 e7 e8 hp6 hp7 hp8 s6' s7' s8' hd9 hq9
      walk_at "mf"
      -- other, third
      refine ⟨q, t5, rfl, hq12, by omega, fun t13 H13 v2 d2 sx13 hq13 l13 u13 hd2 hok2 => ?_⟩
      walk_at "mf"
      refine ⟨q, t13, rfl, hq13, by omega, fun t14 H14 v3 d3 sx14 hq14 l14 u14 hd3 hok3 => ?_⟩
      have hdA := hd12.go (sx13.trans sx14)
      have hdB := hd2.go sx14
      clear hd12 hd2 sx13 sx14 hq12 hq13
      walk_at "mfs"
      refine g_seq (g_asg ?_)
      refine cut_te (v := .bl (isFrD d && isFrD d2)) (fun Q' k' => ?_) ?_
      · walk_at "mf"
        refine ⟨q, v, d, rfl, hdA, ?_⟩
        walk_at "mf"
        refine g_ite (fun h => ?_) (fun h => ?_)
        · walk_at "mf"
          refine ⟨q, v2, d2, rfl, hdB, ?_⟩
          rw [h] at k'
          exact k'
        · rw [h] at k'
          exact k'
      walk_at "mf"
      refine g_newL (by show 2 ≤ sizeLine; decide) fun p6 H15 hp6 s6' e6 => ?_
      walk_at "mf"
      refine ⟨q, .ref p6, .list [d, d2], rfl, .lst (hq14.ne hp6) (seqU e6) (.cons (hdA.go (Same.x s6')) (.cons (hdB.go (Same.x s6')) .nil)), ?_⟩
      walk_at "mf"
      refine g_newT (by show 2 ≤ sizeLine; decide) fun p7 H16 hp7 s7' e7 => ?_
      walk_at "mf"
      refine ⟨q, .ref p7, .tuple [d, d2], rfl, .tup ((hq14.same s6').ne hp7) (tupU e7) (.cons (hdA.go ((Same.x s6').trans (Same.x s7'))) (.cons (hdB.go ((Same.x s6').trans (Same.x s7'))) .nil)), ?_⟩
      walk_at "mf"
      refine g_newL (by show 2 ≤ sizeLine; decide) fun p8 H17 hp8 s8' e8 => ?_
      walk_at "mf"
      refine g_reprBB e8 ?_
      walk_at "mf"
      refine g_newL (by show 2 ≤ sizeLine; decide) fun p9 H18 hp9 s9' e9 => ?_
      walk_at "mf"
      refine g_reprBB e9 ?_
      rw [show isPlD (.list [d, d2]) = (isFrD d && isFrD d2) from rfl, show isPlD (.tuple [d, d2]) = (isFrD d && isFrD d2) from rfl]
      have sx18 : SameX q H14 H18 := (((Same.x s6').trans (Same.x s7')).trans (Same.x s8')).trans (Same.x s9')
      have hq18 := (((hq14.same s6').same s7').same s8').same s9'
      have hv1 := hdA.go sx18
      have hv2 := hdB.go sx18
      have hv3 := hd3.go sx18
      clear sx18 e6 e7 e8 e9 hp6 hp7 hp8 hp9 s6' s7' s8' s9' hdA hdB hd3 hq14
      walk_at "mfs"
      -- odd
      obtain ⟨o18, hqo18⟩ := hq18.at
      refine g_seq (g_asg (g_cl (g_cons (g_var rfl (g_cons (g_lst ?_))))))
      apply EvDs.run (q := q) (K := K)
      case h => walk_at "ed"
      intro vs H19 s19 hall
      refine g_newL (by rw [hall.len]; exact Nat.le_of_lt (small1000 (by simp only [List.length_cons, List.length_nil]; decide))) fun p20 H20 hp20 s20 e20 => ?_
      walk_at "mf"
      refine ⟨q, p20, t14, vs, rfl, (hq18.same s19).same s20, by omega, (hq18.same s19).ne hp20, .inl (seqU e20), (fun z => by rw [z] at hall; cases hall), (by rw [hall.len]; simp only [List.length_cons, List.length_nil]; decide), fun t21 H21 x4 sx21 hq21 l21 u21 mx => ?_⟩
      obtain ⟨d4, md4, hd4⟩ := hall.mem mx
      have ho4 : okO d4 = true := by
        simp only [List.mem_cons, List.not_mem_nil, or_false] at md4
        rcases md4 with rfl | rfl | rfl | rfl | rfl | rfl | rfl | rfl
        · rfl
        · rfl
        · exact okO_of hok
        · rfl
        · rfl
        · rfl
        · rfl
        · rfl
      have hd5 : Dq q K H21 x4 d4 := hd4.go ((Same.x s20).trans sx21)
      clear hall hd4 md4 mx e20 hp20 s19 s20 sx21 hv1 hv2 hv3 hqo18 hq18
      walk_at "mfs"
      refine g_seq (g_asg ?_)
      refine cut_teS (v := .bl (isPlD d4)) (fun Q' k' => ?_) (fun H22 s22 => ?_)
      · walk_at "mf"
        refine g_seqQ hd5 ?_
        walk_at "mf"
        refine g_ite (fun h => ?_) (fun h => ?_)
        · obtain ⟨a4, xs, ds, rfl, na, hs, hal, ed⟩ := hd5.seq h
          walk_at "mf"
          refine g_len hs ?_
          walk_at "mf"
          refine g_ite (fun h3 => ?_) (fun h3 => ?_)
          · obtain ⟨x, y, da, db, rfl, rfl, hx, hy⟩ := two_of hal (by have := of_decide_eq_true h3; omega)
            rcases hs with hs | hs
            · walk_at "mf"
              refine g_lcO1 ?_
              walk_at "mf"
              refine ⟨a4, rfl, ⟨_, hs⟩, ?_⟩
              refine lcgo_listF (xs := [x, y]) (fun D i H' => Same H21 H' ∧ H' D = some (.lst (match i with | 0 => [] | 1 => if isFrD da = true then [] else [x] | _ => (if isFrD da = true then [] else [x]) ++ (if isFrD db = true then [] else [y])))) (fun z => rfl) (fun D hD => ⟨same_new hD, upd_same⟩) (fun D i H' _ h => h.1.seq hs) (fun D i z H' hD ez h => ?_) (fun D H' hD h => ?_)
              · obtain ⟨h1, h2⟩ := h
                match i, ez with
                | 0, ez =>
                  cases ez
                  walk_at "mf"
                  refine ⟨q, x, da, rfl, hx.go (Same.x h1), ?_⟩
                  walk_at "mf"
                  refine g_ite (fun hf => ?_) (fun hf => ?_)
                  · have hf : isFrD da = false := by simpa using hf
                    walk_at "mf"
                    refine ⟨_, h2, by show 0 < sizeLine; decide, ?_, ?_⟩
                    · intro b o e
                      rw [upd_ne (ne_of_none e hD)]
                      exact h1 b o e
                    · rw [upd_same, hf]
                      rfl
                  · have hf : isFrD da = true := by simpa using hf
                    refine ⟨h1, ?_⟩
                    rw [hf]
                    exact h2
                | 1, ez =>
                  cases ez
                  walk_at "mf"
                  refine ⟨q, y, db, rfl, hy.go (Same.x h1), ?_⟩
                  walk_at "mf"
                  refine g_ite (fun hf => ?_) (fun hf => ?_)
                  · have hf : isFrD db = false := by simpa using hf
                    walk_at "mf"
                    refine ⟨_, h2, ?_, ?_, ?_⟩
                    · show (if isFrD da = true then [] else [x]).length < sizeLine
                      split
                      · decide
                      · show 1 < sizeLine
                        decide
                    · intro b o e
                      rw [upd_ne (ne_of_none e hD)]
                      exact h1 b o e
                    · rw [upd_same, hf]
                      rfl
                  · have hf : isFrD db = true := by simpa using hf
                    refine ⟨h1, ?_⟩
                    rw [hf]
                    show H' D = some (.lst ((if isFrD da = true then [] else [x]) ++ []))
                    rw [List.append_nil]
                    exact h2
              · obtain ⟨h1, h2⟩ := h
                walk_at "mf"
                refine g_newL (by show 0 ≤ sizeLine; decide) fun pz H30 hpz s30 e30 => ?_
                walk_at "mf"
                have hxx := hx.go ((Same.x h1).trans (Same.x s30))
                have hyy := hy.go ((Same.x h1).trans (Same.x s30))
                have okab : okD da = true ∧ okD db = true := by
                  rcases ed with rfl | rfl
                  · exact (Bool.and_eq_true _ _ ▸ ho4 : okD da = true ∧ okD db = true)
                  · exact (Bool.and_eq_true _ _ ▸ ho4 : okD da = true ∧ okD db = true)
                have s31 := h1.trans s30
                rw [(frD_of ed).2] at k'
                have h3 := s30 _ _ h2
                cases fa : isFrD da with
                | true => cases fb : isFrD db with
                  | true =>
                    rw [fa, fb] at h3 k'
                    exact g_eqNilD (q := q) (ds := []) (seqU h3) .nil (fun _ z => absurd z List.not_mem_nil) (seqU e30) (k' _ s31)
                  | false =>
                    rw [fa, fb] at h3 k'
                    exact g_eqNilD (q := q) (ds := [db]) (seqU h3) (.cons hyy .nil) (fun z hz => by rw [List.mem_singleton.mp hz]; exact okab.2) (seqU e30) (k' _ s31)
                | false => cases fb : isFrD db with
                  | true =>
                    rw [fa, fb] at h3 k'
                    exact g_eqNilD (q := q) (ds := [da]) (seqU h3) (.cons hxx .nil) (fun z hz => by rw [List.mem_singleton.mp hz]; exact okab.1) (seqU e30) (k' _ s31)
                  | false =>
                    rw [fa, fb] at h3 k'
                    exact g_eqNilD (q := q) (ds := [da, db]) (seqU h3) (.cons hxx (.cons hyy .nil)) (fun z hz => by
                      rcases List.mem_cons.mp hz with rfl | hz
                      · exact okab.1
                      · rw [List.mem_singleton.mp hz]; exact okab.2) (seqU e30) (k' _ s31)
            · walk_at "mf"
              refine g_lcO2 ?_
              walk_at "mf"
              refine ⟨a4, rfl, ⟨_, hs⟩, ?_⟩
              refine lcgo_tupF (xs := [x, y]) (fun D i H' => Same H21 H' ∧ H' D = some (.lst (match i with | 0 => [] | 1 => if isFrD da = true then [] else [x] | _ => (if isFrD da = true then [] else [x]) ++ (if isFrD db = true then [] else [y])))) (fun z => rfl) (fun D hD => ⟨same_new hD, upd_same⟩) (fun D i H' _ h => (Same.x (q := q) h.1).tup na hs) (fun D i z H' hD ez h => ?_) (fun D H' hD h => ?_)
              · obtain ⟨h1, h2⟩ := h
                match i, ez with
                | 0, ez =>
                  cases ez
                  walk_at "mf"
                  refine ⟨q, x, da, rfl, hx.go (Same.x h1), ?_⟩
                  walk_at "mf"
                  refine g_ite (fun hf => ?_) (fun hf => ?_)
                  · have hf : isFrD da = false := by simpa using hf
                    walk_at "mf"
                    refine ⟨_, h2, by show 0 < sizeLine; decide, ?_, ?_⟩
                    · intro b o e
                      rw [upd_ne (ne_of_none e hD)]
                      exact h1 b o e
                    · rw [upd_same, hf]
                      rfl
                  · have hf : isFrD da = true := by simpa using hf
                    refine ⟨h1, ?_⟩
                    rw [hf]
                    exact h2
                | 1, ez =>
                  cases ez
                  walk_at "mf"
                  refine ⟨q, y, db, rfl, hy.go (Same.x h1), ?_⟩
                  walk_at "mf"
                  refine g_ite (fun hf => ?_) (fun hf => ?_)
                  · have hf : isFrD db = false := by simpa using hf
                    walk_at "mf"
                    refine ⟨_, h2, ?_, ?_, ?_⟩
                    · show (if isFrD da = true then [] else [x]).length < sizeLine
                      split
                      · decide
                      · show 1 < sizeLine
                        decide
                    · intro b o e
                      rw [upd_ne (ne_of_none e hD)]
                      exact h1 b o e
                    · rw [upd_same, hf]
                      rfl
                  · have hf : isFrD db = true := by simpa using hf
                    refine ⟨h1, ?_⟩
                    rw [hf]
                    show H' D = some (.lst ((if isFrD da = true then [] else [x]) ++ []))
                    rw [List.append_nil]
                    exact h2
              · obtain ⟨h1, h2⟩ := h
                walk_at "mf"
                refine g_newL (by show 0 ≤ sizeLine; decide) fun pz H30 hpz s30 e30 => ?_
                walk_at "mf"
                have hxx := hx.go ((Same.x h1).trans (Same.x s30))
                have hyy := hy.go ((Same.x h1).trans (Same.x s30))
                have okab : okD da = true ∧ okD db = true := by
                  rcases ed with rfl | rfl
                  · exact (Bool.and_eq_true _ _ ▸ ho4 : okD da = true ∧ okD db = true)
                  · exact (Bool.and_eq_true _ _ ▸ ho4 : okD da = true ∧ okD db = true)
                have s31 := h1.trans s30
                rw [(frD_of ed).2] at k'
                have h3 := s30 _ _ h2
                cases fa : isFrD da with
                | true => cases fb : isFrD db with
                  | true =>
                    rw [fa, fb] at h3 k'
                    exact g_eqNilD (q := q) (ds := []) (seqU h3) .nil (fun _ z => absurd z List.not_mem_nil) (seqU e30) (k' _ s31)
                  | false =>
                    rw [fa, fb] at h3 k'
                    exact g_eqNilD (q := q) (ds := [db]) (seqU h3) (.cons hyy .nil) (fun z hz => by rw [List.mem_singleton.mp hz]; exact okab.2) (seqU e30) (k' _ s31)
                | false => cases fb : isFrD db with
                  | true =>
                    rw [fa, fb] at h3 k'
                    exact g_eqNilD (q := q) (ds := [da]) (seqU h3) (.cons hxx .nil) (fun z hz => by rw [List.mem_singleton.mp hz]; exact okab.1) (seqU e30) (k' _ s31)
                  | false =>
                    rw [fa, fb] at h3 k'
                    exact g_eqNilD (q := q) (ds := [da, db]) (seqU h3) (.cons hxx (.cons hyy .nil)) (fun z hz => by
                      rcases List.mem_cons.mp hz with rfl | hz
                      · exact okab.1
                      · rw [List.mem_singleton.mp hz]; exact okab.2) (seqU e30) (k' _ s31)
          · rw [(frD_two ed (by rw [← hal.len]; have := of_decide_eq_false h3; omega)).2] at k'
            exact k' _ (Same.refl _)
        · rw [plD_no h] at k'
          exact k' _ (Same.refl _)
      walk_at "mf"
      refine ⟨q, x4, d4, rfl, hd5.go (Same.x s22), ?_⟩
      walk_at "mf"
      exact ⟨⟨_, _, _, _, _, _, _, _, _, _, rfl⟩, t21, hq21.same s22, by omega⟩
    · obtain ⟨⟨s2, s3, s4, s5, s6, s7, s8, s9, s10, s11, rfl⟩, t, hq, ht⟩ := hP
      walk_at "mf"
      exact k _
end Mf
namespace Mf
open PySem PySem.Spec PyProof.Rows L2
local macro_rules | `(tactic| walk_at "mf1") => `(tactic| first
  | ((with_reducible apply g_var); exact rfl)
  | with_reducible first
    | refine g_c ?_ | refine g_op ?_ | refine g_un ?_ | refine g_cb ?_ | refine g_cl ?_ | refine g_clk ?_ | refine g_nil ?_ | refine g_cons ?_
    | refine g_tB ?_ | refine g_test ?_ | refine g_bl ?_ | refine g_and ?_ | refine g_or ?_ | refine g_not ?_ | refine g_andV ?_ | refine g_orV ?_ | refine g_notV ?_
    | refine g_if ?_ | refine g_ifS ?_ | refine g_seq ?_ | refine g_next ?_ | refine g_ret ?_ | refine g_drop ?_ | refine g_asg ?_ | refine g_name ?_ | refine g_sub ?_
    | refine g_int ?_ | refine g_intB ?_ | refine g_abs ?_ | refine g_I0 ?_ | refine g_addI ?_ | refine g_U ?_ | refine g_isNn ?_ | refine g_isNi ?_ | refine g_notN ?_ | refine g_notT1 ?_ | refine g_notT2 ?_ | refine g_notT3 ?_ | refine g_notT4 ?_ | refine g_notTb ?_ | refine g_notTi ?_ | refine g_eqI ?_ | refine g_neI ?_ | refine g_neSs ?_ | refine g_neS ?_ | refine g_eqS ?_
    | refine g_iteT ?_ | refine g_iteF ?_ | refine g_lst ?_ | refine g_tup ?_ | refine g_seqP ?_ | refine g_sl ?_ | refine g_noPart ?_ | refine g_part ?_ | refine g_ii ?_ | refine g_par ?_ | refine g_par3 ?_ | refine g_vv ?_ | refine g_vvv ?_ | refine g_reprB ?_ | refine g_lcL ?_ | refine g_lcR ?_
  | ((with_reducible refine g_mod ?_ ?_); (first | omega | decide))
  | ((with_reducible refine g_div ?_ ?_ ?_); (first | omega | decide); (first | assumption | decide))
  | ((with_reducible refine g_mulL ?_ ?_ ?_); (first | omega | decide); (first | omega | decide))
  | ((with_reducible refine g_mulR ?_ ?_ ?_); (first | omega | decide); (first | omega | decide))
  | ((with_reducible refine g_pow ?_ ?_ ?_ ?_); decide; decide; (first | omega | decide))
  | dsimp only)
local macro_rules | `(tactic| walk_at "mf1s") => `(tactic| first
  | ((with_reducible apply g_var); exact rfl)
  | with_reducible first
    | refine g_c ?_ | refine g_op ?_ | refine g_un ?_ | refine g_cb ?_ | refine g_cl ?_ | refine g_clk ?_ | refine g_nil ?_ | refine g_cons ?_
    | refine g_tB ?_ | refine g_test ?_ | refine g_bl ?_ | refine g_and ?_ | refine g_or ?_ | refine g_not ?_ | refine g_andV ?_ | refine g_orV ?_ | refine g_notV ?_
    | refine g_if ?_ | refine g_ifS ?_ | refine g_next ?_ | refine g_ret ?_ | refine g_drop ?_ | refine g_asg ?_ | refine g_name ?_ | refine g_sub ?_
    | refine g_int ?_ | refine g_intB ?_ | refine g_abs ?_ | refine g_I0 ?_ | refine g_addI ?_ | refine g_U ?_ | refine g_isNn ?_ | refine g_isNi ?_ | refine g_notN ?_ | refine g_notT1 ?_ | refine g_notT2 ?_ | refine g_notT3 ?_ | refine g_notT4 ?_ | refine g_notTb ?_ | refine g_notTi ?_ | refine g_eqI ?_ | refine g_neI ?_ | refine g_neSs ?_ | refine g_neS ?_ | refine g_eqS ?_
    | refine g_iteT ?_ | refine g_iteF ?_ | refine g_lst ?_ | refine g_tup ?_ | refine g_seqP ?_ | refine g_sl ?_ | refine g_noPart ?_ | refine g_part ?_ | refine g_ii ?_ | refine g_par ?_ | refine g_par3 ?_ | refine g_vv ?_ | refine g_vvv ?_ | refine g_reprB ?_ | refine g_lcL ?_ | refine g_lcR ?_
  | ((with_reducible refine g_mod ?_ ?_); (first | omega | decide))
  | ((with_reducible refine g_div ?_ ?_ ?_); (first | omega | decide); (first | assumption | decide))
  | ((with_reducible refine g_mulL ?_ ?_ ?_); (first | omega | decide); (first | omega | decide))
  | ((with_reducible refine g_mulR ?_ ?_ ?_); (first | omega | decide); (first | omega | decide))
  | ((with_reducible refine g_pow ?_ ?_ ?_ ?_); decide; decide; (first | omega | decide))
  | dsimp only)
local macro_rules | `(tactic| walk_at "mfs") => `(tactic| repeat walk_at "mf1s")
local macro_rules | `(tactic| walk_at "mf") => `(tactic| repeat walk_at "mf1")
local macro_rules | `(tactic| walk_at "ed") => `(tactic| repeat (first
  | with_reducible first
    | exact eds_nil | apply eds_cons | exact ed_int | exact ed_bl | exact ed_non | apply ed_neg
  | ((with_reducible apply ed_str); decide)
  | ((with_reducible apply ed_var); (exact rfl); assumption)
  | ((with_reducible apply ed_dict0); assumption)
  | ((with_reducible apply ed_dict2); assumption)
  | ((with_reducible apply ed_tup); assumption)
  | ((with_reducible apply ed_lst); assumption)
  | (with_reducible apply ed_pow)
  | (with_reducible apply ed_mul)
  | (exact ⟨by decide, by decide, by decide⟩)
  | (show List.length _ ≤ 1000; simp only [List.length_cons, List.length_nil]; decide)))
theorem de_mk {P : Program} {w : World} {K : PySem.W.Frag} {h b : Heap} {mg : Str → Option Value} {x : Str} {st : Stmt} {f : Addr} {od an : Option Addr} {sl : Array (Option Value)} {oc kV dc pm cd ct : Value} (X : K.In h) (G : h.Ns mainGlobals mg)
    (a : PySem.W.nsIn K mainGlobals x = some (some (.ref f))) (l : K.lookup f = some ⟨oc, od, .func (PySem.W.fnOf x x (defArgs st) (defBody st) (defScope st) .none kV dc pm an cd ct), sl⟩)
    (c : PySem.W.codeIn K cd x = true) (k : PySem.W.keepIn K (.ref f) = true) : De ⟨P, w, K, mg, b⟩ x st := ⟨f, _, PySem.W.mg_of X G a, fun_mk l c k⟩
theorem end_mk {P : Program} {w : World} {K : PySem.W.Frag} {h : Heap} {mg : Str → Option Value} {fa : Addr} (hmg : mg "law" = some (.ref fa)) (T : ∀ base : Heap, Tx ⟨P, w, K, mg, base⟩) :
    ∃ fd : FuncData, (∀ (s : Shared) (u : Value), BindsTo s fd ⟨[u], []⟩ [("script", u)]) ∧ ∀ base : Heap, K.In base → base.Ns mainGlobals mg → FnG P w K mg base CX0 5 fa fd ["script"] (sp_law K) := by
  obtain ⟨f, fd, hm, F⟩ := (T h).d_law.ex
  have e : f = fa := by
    have e := hm.symm.trans hmg
    cases e
    rfl
  subst e
  refine ⟨fd, fun s u => ?_, fun base _ _ => ?_⟩
  · obtain ⟨oc, od, kV, doc, pm, an, cdv, ct, osl, rfl, lk, hcd⟩ := F.ex
    exact .of_eq (pl_law kV doc pm an cdv ct [u] rfl)
  · obtain ⟨f2, fd2, F2, hm2, W2⟩ := (ok_law ⟨P, w, K, mg, base⟩ (T base)).ex
    have e2 : f2 = f := by
      have e := hm2.symm.trans hm
      cases e
      rfl
    subst e2
    obtain ⟨oc, od, kV, doc, pm, an, cdv, ct, osl, rfl, lk, hcd⟩ := F.ex
    obtain ⟨oc', od', kV', doc', pm', an', cdv', ct', osl', rfl, lk', hcd'⟩ := W2.ex
    rw [lk] at lk'
    cases lk'
    exact F2
theorem all_mk {P : Program} {w : World} {K : PySem.W.Frag} {h : Heap} {mg : Str → Option Value} {fa : Addr} (X : K.In h) (G : h.Ns mainGlobals mg) (hmg : mg "law" = some (.ref fa))
    {f0 f1 f2 f3 f4 f5 f6 f7 f8 f9 f10 f11 : Addr} {od0 an0 od1 an1 od2 an2 od3 an3 od4 an4 od5 an5 od6 an6 od7 an7 od8 an8 od9 an9 od10 an10 od11 an11 : Option Addr} {sl0 sl1 sl2 sl3 sl4 sl5 sl6 sl7 sl8 sl9 sl10 sl11 : Array (Option Value)} {oc0 kV0 dc0 pm0 cd0 ct0 oc1 kV1 dc1 pm1 cd1 ct1 oc2 kV2 dc2 pm2 cd2 ct2 oc3 kV3 dc3 pm3 cd3 ct3 oc4 kV4 dc4 pm4 cd4 ct4 oc5 kV5 dc5 pm5 cd5 ct5 oc6 kV6 dc6 pm6 cd6 ct6 oc7 kV7 dc7 pm7 cd7 ct7 oc8 kV8 dc8 pm8 cd8 ct8 oc9 kV9 dc9 pm9 cd9 ct9 oc10 kV10 dc10 pm10 cd10 ct10 oc11 kV11 dc11 pm11 cd11 ct11 : Value}
    (a0 : PySem.W.nsIn K mainGlobals "is_integer" = some (some (.ref f0))) (l0 : K.lookup f0 = some ⟨oc0, od0, .func (PySem.W.fnOf "is_integer" "is_integer" (defArgs s_is_integer) (defBody s_is_integer) (defScope s_is_integer) .none kV0 dc0 pm0 an0 cd0 ct0), sl0⟩) (c0 : PySem.W.codeIn K cd0 "is_integer" = true) (k0 : PySem.W.keepIn K (.ref f0) = true)
    (a1 : PySem.W.nsIn K mainGlobals "is_within" = some (some (.ref f1))) (l1 : K.lookup f1 = some ⟨oc1, od1, .func (PySem.W.fnOf "is_within" "is_within" (defArgs s_is_within) (defBody s_is_within) (defScope s_is_within) .none kV1 dc1 pm1 an1 cd1 ct1), sl1⟩) (c1 : PySem.W.codeIn K cd1 "is_within" = true) (k1 : PySem.W.keepIn K (.ref f1) = true)
    (a2 : PySem.W.nsIn K mainGlobals "is_list" = some (some (.ref f2))) (l2 : K.lookup f2 = some ⟨oc2, od2, .func (PySem.W.fnOf "is_list" "is_list" (defArgs s_is_list) (defBody s_is_list) (defScope s_is_list) .none kV2 dc2 pm2 an2 cd2 ct2), sl2⟩) (c2 : PySem.W.codeIn K cd2 "is_list" = true) (k2 : PySem.W.keepIn K (.ref f2) = true)
    (a3 : PySem.W.nsIn K mainGlobals "is_fraction" = some (some (.ref f3))) (l3 : K.lookup f3 = some ⟨oc3, od3, .func (PySem.W.fnOf "is_fraction" "is_fraction" (defArgs s_is_fraction) (defBody s_is_fraction) (defScope s_is_fraction) .none kV3 dc3 pm3 an3 cd3 ct3), sl3⟩) (c3 : PySem.W.codeIn K cd3 "is_fraction" = true) (k3 : PySem.W.keepIn K (.ref f3) = true)
    (a4 : PySem.W.nsIn K mainGlobals "is_place" = some (some (.ref f4))) (l4 : K.lookup f4 = some ⟨oc4, od4, .func (PySem.W.fnOf "is_place" "is_place" (defArgs s_is_place) (defBody s_is_place) (defScope s_is_place) .none kV4 dc4 pm4 an4 cd4 ct4), sl4⟩) (c4 : PySem.W.codeIn K cd4 "is_place" = true) (k4 : PySem.W.keepIn K (.ref f4) = true)
    (a5 : PySem.W.nsIn K mainGlobals "_law_quay" = some (some (.ref f5))) (l5 : K.lookup f5 = some ⟨oc5, od5, .func (PySem.W.fnOf "_law_quay" "_law_quay" (defArgs s__law_quay) (defBody s__law_quay) (defScope s__law_quay) .none kV5 dc5 pm5 an5 cd5 ct5), sl5⟩) (c5 : PySem.W.codeIn K cd5 "_law_quay" = true) (k5 : PySem.W.keepIn K (.ref f5) = true)
    (a6 : PySem.W.nsIn K mainGlobals "_law_moor" = some (some (.ref f6))) (l6 : K.lookup f6 = some ⟨oc6, od6, .func (PySem.W.fnOf "_law_moor" "_law_moor" (defArgs s__law_moor) (defBody s__law_moor) (defScope s__law_moor) .none kV6 dc6 pm6 an6 cd6 ct6), sl6⟩) (c6 : PySem.W.codeIn K cd6 "_law_moor" = true) (k6 : PySem.W.keepIn K (.ref f6) = true)
    (a7 : PySem.W.nsIn K mainGlobals "_law_pick" = some (some (.ref f7))) (l7 : K.lookup f7 = some ⟨oc7, od7, .func (PySem.W.fnOf "_law_pick" "_law_pick" (defArgs s__law_pick) (defBody s__law_pick) (defScope s__law_pick) .none kV7 dc7 pm7 an7 cd7 ct7), sl7⟩) (c7 : PySem.W.codeIn K cd7 "_law_pick" = true) (k7 : PySem.W.keepIn K (.ref f7) = true)
    (a8 : PySem.W.nsIn K mainGlobals "_law_value" = some (some (.ref f8))) (l8 : K.lookup f8 = some ⟨oc8, od8, .func (PySem.W.fnOf "_law_value" "_law_value" (defArgs s__law_value) (defBody s__law_value) (defScope s__law_value) .none kV8 dc8 pm8 an8 cd8 ct8), sl8⟩) (c8 : PySem.W.codeIn K cd8 "_law_value" = true) (k8 : PySem.W.keepIn K (.ref f8) = true)
    (a9 : PySem.W.nsIn K mainGlobals "_law_is_integer" = some (some (.ref f9))) (l9 : K.lookup f9 = some ⟨oc9, od9, .func (PySem.W.fnOf "_law_is_integer" "_law_is_integer" (defArgs s__law_is_integer) (defBody s__law_is_integer) (defScope s__law_is_integer) .none kV9 dc9 pm9 an9 cd9 ct9), sl9⟩) (c9 : PySem.W.codeIn K cd9 "_law_is_integer" = true) (k9 : PySem.W.keepIn K (.ref f9) = true)
    (a10 : PySem.W.nsIn K mainGlobals "_law_is_fraction" = some (some (.ref f10))) (l10 : K.lookup f10 = some ⟨oc10, od10, .func (PySem.W.fnOf "_law_is_fraction" "_law_is_fraction" (defArgs s__law_is_fraction) (defBody s__law_is_fraction) (defScope s__law_is_fraction) .none kV10 dc10 pm10 an10 cd10 ct10), sl10⟩) (c10 : PySem.W.codeIn K cd10 "_law_is_fraction" = true) (k10 : PySem.W.keepIn K (.ref f10) = true)
    (a11 : PySem.W.nsIn K mainGlobals "law" = some (some (.ref f11))) (l11 : K.lookup f11 = some ⟨oc11, od11, .func (PySem.W.fnOf "law" "law" (defArgs s_law) (defBody s_law) (defScope s_law) .none kV11 dc11 pm11 an11 cd11 ct11), sl11⟩) (c11 : PySem.W.codeIn K cd11 "law" = true) (k11 : PySem.W.keepIn K (.ref f11) = true)
    (z0 : PySem.W.nsIn K mainGlobals "abs" = some none)
    (z1 : PySem.W.nsIn K mainGlobals "bool" = some none)
    (z2 : PySem.W.nsIn K mainGlobals "int" = some none)
    (z3 : PySem.W.nsIn K mainGlobals "isinstance" = some none)
    (z4 : PySem.W.nsIn K mainGlobals "len" = some none)
    (z5 : PySem.W.nsIn K mainGlobals "list" = some none)
    (z6 : PySem.W.nsIn K mainGlobals "range" = some none)
    (z7 : PySem.W.nsIn K mainGlobals "repr" = some none)
    (z8 : PySem.W.nsIn K mainGlobals "tuple" = some none)
    : ∃ fd : FuncData, (∀ (s : Shared) (u : Value), BindsTo s fd ⟨[u], []⟩ [("script", u)]) ∧ ∀ base : Heap, K.In base → base.Ns mainGlobals mg → FnG P w K mg base CX0 5 fa fd ["script"] (sp_law K) :=
  end_mk (h := h) hmg fun base => { d_is_integer := de_mk X G a0 l0 c0 k0, d_is_within := de_mk X G a1 l1 c1 k1, d_is_list := de_mk X G a2 l2 c2 k2, d_is_fraction := de_mk X G a3 l3 c3 k3, d_is_place := de_mk X G a4 l4 c4 k4, d__law_quay := de_mk X G a5 l5 c5 k5, d__law_moor := de_mk X G a6 l6 c6 k6, d__law_pick := de_mk X G a7 l7 c7 k7, d__law_value := de_mk X G a8 l8 c8 k8, d__law_is_integer := de_mk X G a9 l9 c9 k9, d__law_is_fraction := de_mk X G a10 l10 c10 k10, d_law := de_mk X G a11 l11 c11 k11, n_abs := PySem.W.mg_none_of X G z0, n_bool := PySem.W.mg_none_of X G z1, n_int := PySem.W.mg_none_of X G z2, n_isinstance := PySem.W.mg_none_of X G z3, n_len := PySem.W.mg_none_of X G z4, n_list := PySem.W.mg_none_of X G z5, n_range := PySem.W.mg_none_of X G z6, n_repr := PySem.W.mg_none_of X G z7, n_tuple := PySem.W.mg_none_of X G z8 }
end Mf
open PySem PySem.W PyProof.Rows
set_option maxHeartbeats 0 in
theorem PySem.Challenge.cw_mapflow_k02_what_any_value_is_holds : PySem.Challenge.rw_mapflow_k02_what_any_value_is.Holds := by
  w_on; o_law; k_head; (case hw => w_witness2)
  k_fill
  refine Mf.walkG (l := PySem.Challenge.rw_mapflow_k02_what_any_value_is) (n := 63) (k := 5) (x := "script") (sp := Mf.sp_law) rfl (by decide) rfl ⟨rfl, by decide, by decide⟩ (fun w h Y => PySem.W.kIn_of Y) ?F (fun K H a ns hl _ hS => ⟨a, ns, rfl, hS, hl, fun _ => rfl⟩)
  case F =>
    intro w mg fa h KX G hmg
    refine' Mf.all_mk KX G hmg ?a0 ?l0 ?c0 ?k0 ?a1 ?l1 ?c1 ?k1 ?a2 ?l2 ?c2 ?k2 ?a3 ?l3 ?c3 ?k3 ?a4 ?l4 ?c4 ?k4 ?a5 ?l5 ?c5 ?k5 ?a6 ?l6 ?c6 ?k6 ?a7 ?l7 ?c7 ?k7 ?a8 ?l8 ?c8 ?k8 ?a9 ?l9 ?c9 ?k9 ?a10 ?l10 ?c10 ?k10 ?a11 ?l11 ?c11 ?k11 ?z0 ?z1 ?z2 ?z3 ?z4 ?z5 ?z6 ?z7 ?z8
    (case a0 => k_is); (case l0 => k_is); (case c0 => k_is); (case k0 => k_is); (case a1 => k_is); (case l1 => k_is); (case c1 => k_is); (case k1 => k_is); (case a2 => k_is); (case l2 => k_is); (case c2 => k_is); (case k2 => k_is); (case a3 => k_is); (case l3 => k_is); (case c3 => k_is); (case k3 => k_is); (case a4 => k_is); (case l4 => k_is); (case c4 => k_is); (case k4 => k_is); (case a5 => k_is); (case l5 => k_is); (case c5 => k_is); (case k5 => k_is); (case a6 => k_is); (case l6 => k_is); (case c6 => k_is); (case k6 => k_is); (case a7 => k_is); (case l7 => k_is); (case c7 => k_is); (case k7 => k_is); (case a8 => k_is); (case l8 => k_is); (case c8 => k_is); (case k8 => k_is); (case a9 => k_is); (case l9 => k_is); (case c9 => k_is); (case k9 => k_is); (case a10 => k_is); (case l10 => k_is); (case c10 => k_is); (case k10 => k_is); (case a11 => k_is); (case l11 => k_is); (case c11 => k_is); (case k11 => k_is); (case z0 => k_is); (case z1 => k_is); (case z2 => k_is); (case z3 => k_is); (case z4 => k_is); (case z5 => k_is); (case z6 => k_is); (case z7 => k_is); (case z8 => k_is)
