import PyProof.Rows.All
import Wide.All
import OpenK.AllK
import Wide.FinOn
import HandS.ForMost
import HandS.ForExc
import HandS.IsInst
import HandS.Wide
import HandS.Gcd
import HandS.Flow
import HandS.Style
import PyProof.ReprRoads
import HandS.ExcInit
import HandS.ExcIs
import HandS.Walk
import PySem.Challenge.RW_mapflow_k00_errors_keep_their_fields
set_option Elab.async false
set_option linter.all false
set_option maxRecDepth 100000
set_option maxHeartbeats 4000000
namespace Mf
open PySem PySem.Spec PyProof.Rows L2

/-! ### a def that is run where nothing is being shown (the guards are known to be none) -/
structure FnG (P : Program) (w : World) (K : PySem.W.Frag) (mg : Str → Option Value) (base : Heap) (CX : CXT) (k : Nat) (f : Addr) (fd : FuncData) (ps : List Str) (sp : Sp) : Prop where
  size : ∀ vs H Q E, sp vs H Q E → vs.length = ps.length
  go : ∀ (A : Around), A.guards = some [] → ∀ (outer : List Env) (s : Shared) (H : Hp) (args : Args) (us : List Value) (vs : List V) (Q : VK) (E : XK),
    Room k A → Env0 P w K mg base A outer s H → BindsTo s fd args (ps.zip us) → Vals vs us → sp vs H Q E →
      codeAny (model P w) A (.call (.ref f) args) (CR CX outer P w H s Q E) s

section
variable {P : Program} {w : World} {K : PySem.W.Frag} {mg : Str → Option Value} {base : Heap}

theorem FnG.of {CX : CXT} {k : Nat} {f : Addr} {fd : FuncData} {ps : List Str} {sp : Sp} (F : FnOk P w K mg base CX k f fd ps sp) : FnG P w K mg base CX k f fd ps sp :=
  ⟨F.len, fun A _ outer s H args us vs Q E => F.run A outer s H args us vs Q E⟩

/-- a def of the text, by its body, where the guards are known -/
theorem okG {x qual : Str} {st : Stmt} {f : Addr} {fd : FuncData} {N ps : List Str} {k : Nat} {sp : Sp} (F : Fun K x qual st f fd) (S : FnScope N ps (defScope st))
    (len : ∀ vs H Q E, sp vs H Q E → vs.length = ps.length)
    (hbody : ∀ (cdv : Value) (A : Around) (outer : List Env) (s : Shared) (H : Hp) (vs : List V) (Q : VK) (E : XK),
      (A.deeper (envOfC qual (defScope st) s.heap.objs.size f cdv)).guards = some [] →
      Room k (A.deeper (envOfC qual (defScope st) s.heap.objs.size f cdv)) → sp vs H Q E →
      ∃ t, PSs (cxOf CX0 P w K mg base N qual (defScope st) f cdv A outer s H E).nox (defBody st) t ∧
        t { nx := fun _ H' => Q .non H', rt := Q } (start N vs) H) :
    FnG P w K mg base CX0 (k + 1) f fd ps sp := by
  obtain ⟨oc, od, kV, doc, pm, an, cdv, ct, osl, rfl, lk, hcd⟩ := F.ex
  refine ⟨len, ?_⟩
  intro A hA outer s H args us vs Q E hr e0 hb r hsp
  have KX : K.In s.heap := e0.mod.kin.keeps fun b o e => (e0.bs b o e).1
  have lim : s.heap.NoLimit := e0.mod.nolimit.keeps fun b o e => (e0.bs b o e).1
  have hl := len _ _ _ _ hsp
  have kinds : ∀ y ∈ ps.zip us, (defScope st).names.lookup y.1 = some .local ∨
      ((defScope st).names.lookup y.1 = some .cell ∧ ((cellsFrom (s.heap.objs.size + 1) (defScope st).names []).lookup y.1).isSome = true) := by
    intro y hy
    obtain ⟨n, v⟩ := y
    cases S.par n (List.of_mem_zip hy).1 with
    | inl q => exact Or.inl q
    | inr q => exact Or.inr ⟨q, PySem.W.cellsFrom_some _ _ _ (.inl q)⟩
  refine codeAny_call_function hr.depth (KX _ _ lk) rfl S.co S.gen rfl (PySem.W.codeRec_of KX hcd) (hb _ _ _ _ ?_)
  refine wpAny_newFunctionEnv_cells S.kind kinds ?_
  intro env he s1 x
  subst he
  refine ⟨lim.keeps x.toInCall.keep, codeAny_func ?_⟩
  have hAg : (A.deeper (envOfC qual (defScope st) s.heap.objs.size f cdv)).guards = some [] := hA
  obtain ⟨t, ht, hq⟩ := hbody cdv A outer s H vs Q E hAg (hr.deeper _) hsp
  have I := inv_start (CX := CX0) (mg := mg) (base := base) (N := N) (qual := qual) (f := f) (cd := cdv) (E := E) S hr.hd e0 hl r x
  refine wpAny_mono (ht.nox.run [] s1 (start N vs) H _ I hq) ?_ (fun e s' hs => hs)
  intro fl s' hs
  cases fl with
  | ret u =>
    obtain ⟨v, σ', H', J, rv, q⟩ := hs
    exact ⟨v, H', J.os, J.bare, J.base, J.hok, rv, q⟩
  | next =>
    obtain ⟨σ', H', J, q⟩ := hs
    exact ⟨V.non, H', J.os, J.bare, J.base, J.hok, (rfl : Value.none = Value.none), q⟩
  | brk => obtain ⟨_, _, _, q⟩ := hs; exact False.elim q
  | cont => obtain ⟨_, _, _, q⟩ := hs; exact False.elim q
end

section
variable {X : Cx} {CX : CXT} {k : Nat} {f C : Addr} {fd : FuncData} {ps : List Str} {sp : Sp} {E : XK} {x : Str} {p pos : Pos} {e : Expr} {es : List Expr} {t : TA}
theorem run_fnG {pins : List (Addr × Obj)} {σ : L2.St} {H : Hp} {s : Shared} {Q : VK} {us : List Value} {vs : List V} (F : FnG X.prog X.w X.K X.mg X.base CX k f fd ps sp)
    (hA : X.A.guards = some []) (hr : Room k X.A) (hb : Binds X.K fd ps []) (hx : Passes CX X E)
    (I : Inv X pins σ H s) (r : Vals vs us) (h : sp vs H Q E) : wpAny (model X.prog X.w) X.A (call (.ref f) us) (EP X pins σ Q) X.xe s := by
  have hl : (us ++ []).length = ps.length := by
    rw [List.append_nil, ← r.length]
    exact F.size _ _ _ _ h
  have hb' := hb s us I.kIn hl
  rw [List.append_nil] at hb'
  refine wpAny_call (codeAny_mono (F.go X.A hA X.stack s H ⟨us, []⟩ us vs Q E hr I.env0 hb' r h) ?_)
  intro r s' hq
  cases r with
  | error e => exact hx pins σ H s e s' I hq
  | ok fl => cases fl with
    | ret u => exact I.after hq
    | next => exact hq.elim
    | brk => exact hq.elim
    | cont => exact hq.elim
/-- f(e, ..) where the guards are known -/
theorem pe_callG (F : FnG X.prog X.w X.K X.mg X.base CX k f fd ps sp) (hA : X.A.guards = some []) (hr : Room k X.A) (hg : Gl X x) (hm : X.mg x = some (.ref f))
    (hk : PySem.W.keepIn X.K (.ref f) = true) (hb : Binds X.K fd ps []) (hx : Passes CX X E)
    (ha : PA X (e :: es) t) (hdb : (x == ("__debug__" : Str)) = false := by decide) (he : starEach (e :: es) X.env = (false, eval e X.env) :: starEach es X.env := by rfl)
    (hpl : (backTo pos (starEach es X.env)).any (·.1) = false := by rfl) :
    PE X (.Call (.Name x p) (e :: es) [] pos) (fun σ H Q => t σ H fun vs H1 => sp vs H1 Q E) := by
  refine ⟨fun pins s σ H Q I h => wpAny_Call_Name_kw (ld_glob I hg hm ?_ hdb)⟩
  refine PySem.W.callWith_K (h₀ := X.base) I.ok.mod.kin hk (thn (ha.run pos pins s σ H _ I h) ?_) he hpl
  intro us s1 ⟨vs, H1, I1, r, q⟩
  exact ⟨I1.kIn, run_fnG F hA hr hb hx I1 r q⟩
end

/-! ### the law's call, where its def is an FnG -/
theorem law_callG {P : Program} {w : World} {K : PySem.W.Frag} {mg mb : Str → Option Value} {k : Nat} {fa a : Addr} {fd : FuncData} {x : Str} {sp : Sp} {s₁ : Shared} {vs : List Value} {ns : List Int}
    (KX : K.In s₁.heap) (hns : s₁.heap.Ns mainGlobals mg) (hb : s₁.heap.Ns builtinsNs mb) (hbb : ∀ x : Str, x ≠ "__name__" → mb x = bootBuiltins x)
    (hlim : s₁.heap.NoLimit) (hg : s₁.gens = #[])
    (ha : s₁.heap.get? a = some { cls := .type "list", data := .seq vs.toArray }) (hi : IntsAre vs ns) (hl : ns.length ≤ sizeLine) (hr : Room k callerA)
    (F : ∀ base : Heap, K.In base → base.Ns mainGlobals mg → FnG P w K mg base CX0 k fa fd [x] sp)
    (hbind : ∀ (s : Shared) (u : Value), BindsTo s fd ⟨[u], []⟩ [(x, u)])
    (hsp : ∀ H : Hp, Only H → SqL K H a (ns.map V.int) → sp [.ref a] H (fun v _ => v = .bl true) fun _ _ _ => False) :
    codeAny (model P w) callerA (.call (.ref fa) ⟨[.ref a], []⟩)
      (fun r s' => r = .ok (.ret (.bool true)) ∧ OldK s₁.heap s'.heap ∧ s'.os = s₁.os ∧ AllBare s'.gens) s₁ := by
  have rv := vals_ints hi
  have lenV := hi.length
  have main : ∀ H : Hp, Only H → SqL K H a (ns.map V.int) → HOk P w H s₁.heap → (∀ b, H b ≠ none → b = a) → (H a ≠ none → K.lookup a = none) →
      codeAny (model P w) callerA (.call (.ref fa) ⟨[.ref a], []⟩)
        (fun r s' => r = .ok (.ret (.bool true)) ∧ OldK s₁.heap s'.heap ∧ s'.os = s₁.os ∧ AllBare s'.gens) s₁ := by
    intro H hO hS hok hA hK
    have unt : ∀ {b : Addr} {o : Obj}, s₁.heap.get? b = some o → (b = a → False) → H b = none := by
      intro b o e ne
      cases q : H b with
      | none => rfl
      | some u => exact (ne (hA b (by rw [q]; exact Option.some_ne_none _))).elim
    have nsK : ∀ {b : Addr} {m : Str → Option Value}, s₁.heap.Ns b m → (hidT s₁.heap H).Ns b m := by
      intro b m h
      obtain ⟨o, es, ep, e, d, r⟩ := h
      refine ⟨o, es, ep, hidT_get e (unt e fun z => ?_), d, r⟩
      subst z
      rw [ha] at e
      cases e
      cases d
    have hKb : K.In (hidT s₁.heap H) := by
      intro b o e
      refine hidT_get (KX b o e) ?_
      cases q : H b with
      | none => rfl
      | some u =>
        have nb : H b ≠ none := by
          rw [q]
          exact Option.some_ne_none _
        have z := hA b nb
        subst z
        rw [hK nb] at e
        cases e
    have hM : Mod K mg (hidT s₁.heap H) := by
      refine ⟨hKb, nsK hns, ⟨mb, nsK hb, hbb⟩, ?_⟩
      obtain ⟨mc, h1, h2⟩ := hlim
      exact ⟨mc, nsK h1, h2⟩
    have e0 : Env0 P w K mg (hidT s₁.heap H) callerA [] s₁ H :=
      { frames := rfl, mod := hM, bs := fun b o e => of_hidT e, bsz := Nat.le_of_eq (hidT_size _ _), funs := trivial,
        frf := fun b hb => absurd hb List.not_mem_nil, hok := hok, bare := .of_eq hg }
    have run := (F _ hKb (nsK hns)).go callerA rfl [] s₁ H ⟨[.ref a], []⟩ [.ref a] [.ref a] (fun v _ => v = .bl true) (fun _ _ _ => False) hr e0 (hbind s₁ (.ref a)) (.cons rfl .nil) (hsp H hO hS)
    refine codeAny_mono run ?_
    intro r s' h
    cases r with
    | error e => exact False.elim h
    | ok fl => cases fl with
      | next => exact False.elim h
      | brk => exact False.elim h
      | cont => exact False.elim h
      | ret u =>
        obtain ⟨v, H', os, bare, un, hok', r', q⟩ := h
        obtain rfl : v = .bl true := q
        obtain rfl : u = Value.bool true := r'
        refine ⟨rfl, OldK.of_keep ?_, os, bare⟩
        intro b o e
        cases q : H b with
        | none => exact un.keep b o e q List.not_mem_nil List.not_mem_nil
        | some u =>
          cases hO b with
          | inl z =>
            rw [q] at z
            cases z
          | inr z =>
            obtain ⟨ob, xs, z⟩ := z
            obtain ⟨e1, _⟩ := hok b _ z
            obtain ⟨e2, _⟩ := hok' b _ (un.frzs b ob _ z)
            rw [e] at e1
            cases e1
            exact e2
  cases hk : K.lookup a with
  | some o =>
    have e := KX a o hk
    rw [ha] at e
    cases e
    refine main (fun _ => none) (fun _ => Or.inl rfl) (Or.inr ⟨_, vs.toArray, _, hk, rfl, rfl, rfl, ?_, ?_⟩) ?_ (fun b z => absurd rfl z) (fun z => absurd rfl z)
    · rw [List.size_toArray, lenV]
      exact hl
    · simpa using rv
    · intro b u z
      have z' : (none : Option HO) = some u := z
      cases z'
  | none =>
    have hat : ∀ b : Addr, (fun b => if b = a then some (HO.frz { cls := .type "list", data := .seq vs.toArray } (.lst (ns.map V.int))) else none) b ≠ none → b = a := by
      intro b z
      by_cases hb : b = a
      · exact hb
      · exact absurd (if_neg hb) z
    refine main (fun b => if b = a then some (HO.frz { cls := .type "list", data := .seq vs.toArray } (.lst (ns.map V.int))) else none) ?_ (Or.inl (Or.inr ⟨_, if_pos rfl⟩)) ?_ hat (fun _ => hk)
    · intro b
      by_cases hb : b = a
      · exact Or.inr ⟨_, _, if_pos hb⟩
      · exact Or.inl (if_neg hb)
    · intro b u z
      by_cases hb : b = a
      · have z' := (if_pos hb).symm.trans z
        cases z'
        subst hb
        refine ⟨ha, ?_, vs, _, rv, ha⟩
        rw [List.length_map]
        exact hl
      · have z' := (if_neg hb).symm.trans z
        cases z'

/-- the law row from the promise of its def -/
theorem walkG {l : PySem.W.OpenLaw} {n k : Nat} {q : Program} {loose : List Str} {XP : (Str → Option Value) → Heap → Prop} {YP : World → Heap → Prop} {d : DefRec} {K : Params → PySem.W.Frag} {sp : PySem.W.Frag → Sp} {x : Str}
    (hn : l.most = some n) (hn2 : n ≤ sizeLine) (hdf : d.params.defaults = []) (hr : Room k callerA)
    (hY : ∀ (w : World) (h : Heap), YP w h → (K w.params).In h)
    (F : ∀ (w : World) (mg : Str → Option Value) (fa : Addr) (h : Heap), (K w.params).In h → h.Ns mainGlobals mg → mg d.name = some (.ref fa) →
      ∃ fd : FuncData, (∀ (s : Shared) (u : Value), BindsTo s fd ⟨[u], []⟩ [(x, u)]) ∧
        ∀ base : Heap, (K w.params).In base → base.Ns mainGlobals mg → FnG l.prog w (K w.params) mg base CX0 k fa fd [x] (sp (K w.params)))
    (hsp : ∀ (K : PySem.W.Frag) (H : Hp) (a : Addr) (ns : List Int), ns.length ≤ n → Only H → SqL K H a (ns.map V.int) → sp K [.ref a] H (fun v _ => v = .bl true) fun _ _ _ => False) :
    PySem.W.WalkO q loose XP YP l.row.toRowW d [] (fun f vs => PySem.call f vs) := by
  refine Att.attach_call hn hdf ?_
  intro w s₀ s₁ mg mb fa o pm cd doc a vs ns G Y ho hd hcd hmg hobj hints hlen hg
  have KX := hY w _ Y
  obtain ⟨fd, hb, hF⟩ := F w mg fa _ KX G.T.g hmg
  exact law_callG KX G.T.g G.T.b G.T.builtins G.T.nolimit hg hobj hints (Nat.le_trans hlen hn2) hr hF hb (fun H hO hS => hsp _ H a ns hlen hO hS)

/-! ### repr of data -/
section
variable {X : Cx}
theorem call_reprD (hA : X.A.guards = some []) (hu : X.A.units + 64 < cLine) : CallR X (.builtin "repr") (fun xs H Q => ∃ (a : Addr) (d : PyData), xs = [.ref a] ∧ Dp X.K H (.ref a) d ∧
    d.showable = true ∧ d.hasDict = false ∧ d.depth ≤ 60 ∧ d.shown.length ≤ sizeLine ∧ Q (.str d.shown) H) := by
  intro pins s σ H xs us Q I r h
  obtain ⟨a, d, rfl, hd, hs, hn, hdep, hz, q⟩ := h
  obtain ⟨u, rfl, rx⟩ := vals1 r
  cases (show u = Value.ref a from rx)
  obtain ⟨as, rd⟩ := Dp.reads I d _ _ hd rfl
  refine repr_of_reads' rd hs (PyData.noDict_hsm hn) hA (by omega) (fun b o e => e) ?_ hz
  intro h' u tk hk
  exact ⟨.str d.shown, H, I.kept hk, ⟨u, rfl⟩, q⟩
end
end Mf
namespace Mf
open PySem PySem.Spec PyProof.Rows L2
/-- where one stands: the program, the world, what is written, the module's names -/
structure Cn where
  P : Program
  w : World
  K : PySem.W.Frag
  mg : Str → Option Value
  base : Heap
abbrev cnOf (X : Cx) : Cn := ⟨X.prog, X.w, X.K, X.mg, X.base⟩
/-- a def that can be called by its name -/
structure Cl (c : Cn) (k : Nat) (x : Str) (st : Stmt) (ps : List Str) (sp : Sp) : Prop where
  ex : ∃ (f : Addr) (fd : FuncData), FnG c.P c.w c.K c.mg c.base CX0 k f fd ps sp ∧ c.mg x = some (.ref f) ∧ Fun c.K x x st f fd
/-- a def of the text as it stands -/
structure De (c : Cn) (x : Str) (st : Stmt) : Prop where
  ex : ∃ (f : Addr) (fd : FuncData), c.mg x = some (.ref f) ∧ Fun c.K x x st f fd
/-- the arguments written one behind another -/
def Pl (x : Str) (st : Stmt) (ps : List Str) : Prop := ∀ (kV doc pm : Value) (an : Option Addr) (cdv ct : Value) (us : List Value), us.length = ps.length →
  bindArgs (PySem.W.fnOf x x (defArgs st) (defBody st) (defScope st) .none kV doc pm an cdv ct) ⟨us, []⟩ = pure (ps.zip us)
/-- .. by names alone: the names as they are written, and how they are put in order -/
def Pk (x : Str) (st : Stmt) (ps ks : List Str) (g : List Value → List Value) : Prop := ∀ (kV doc pm : Value) (an : Option Addr) (cdv ct : Value) (ws : List Value), ws.length = ks.length →
  bindArgs (PySem.W.fnOf x x (defArgs st) (defBody st) (defScope st) .none kV doc pm an cdv ct) ⟨[], ks.zip ws⟩ = pure (ps.zip (g ws))

theorem De.cl {c : Cn} {x : Str} {st : Stmt} {N ps : List Str} {k : Nat} {sp : Sp} (D : De c x st) (S : FnScope N ps (defScope st))
    (len : ∀ vs H Q E, sp vs H Q E → vs.length = ps.length)
    (hbody : ∀ (f : Addr) (cdv : Value) (A : Around) (outer : List Env) (s : Shared) (H : Hp) (vs : List V) (Q : VK) (E : XK),
      (A.deeper (envOfC x (defScope st) s.heap.objs.size f cdv)).guards = some [] →
      Room k (A.deeper (envOfC x (defScope st) s.heap.objs.size f cdv)) → sp vs H Q E →
      ∃ t, PSs (cxOf CX0 c.P c.w c.K c.mg c.base N x (defScope st) f cdv A outer s H E).nox (defBody st) t ∧
        t { nx := fun _ H' => Q .non H', rt := Q } (start N vs) H) : Cl c (k + 1) x st ps sp := by
  obtain ⟨f, fd, hm, F⟩ := D.ex
  exact ⟨f, fd, okG F S len (hbody f), hm, F⟩

section
variable {X : Cx} {k j : Nat} {f : Addr} {ps ks : List Str} {sp : Sp} {x : Str} {p pos : Pos} {e : Expr} {es : List Expr} {t tk : TA} {st : Stmt} {kws : List Keyword}
def tCl (sp : Sp) (t : TA) : TE := fun σ H Q => t σ H fun vs H1 => sp vs H1 Q E0
def tClK (sp : Sp) (g : List V → List V) (t : TA) : TE := fun σ H Q => t σ H fun vs H1 => sp (g vs) H1 Q E0
/-- f(e, ..) -/
theorem pe_f (c : Cl (cnOf X) k x st ps sp) (hA : X.A.guards = some []) (hr : Room j X.A) (hk : k ≤ j) (hp : Pl x st ps) (hg : Gl X x) (ha : PA X (e :: es) t)
    (hdb : (x == ("__debug__" : Str)) = false := by decide) (he : starEach (e :: es) X.env = (false, eval e X.env) :: starEach es X.env := by rfl)
    (hpl : (backTo pos (starEach es X.env)).any (·.1) = false := by rfl) : PE X (.Call (.Name x p) (e :: es) [] pos) (tCl sp t) := by
  obtain ⟨f, fd, F, hm, W⟩ := c.ex
  exact pe_callG F hA (hr.mono hk) hg hm W.kp (W.binds hp) pass0 ha hdb he hpl
/-- f(k = e, ..) -/
theorem pe_fk {g : List Value → List Value} {gV : List V → List V} (c : Cl (cnOf X) k x st ps sp) (hA : X.A.guards = some []) (hr : Room j X.A) (hk : k ≤ j) (hp : Pk x st ps ks g)
    (rel : ∀ {vs : List V} {us : List Value}, Vals vs us → us.length = ks.length → Vals (gV vs) (g us)) (hl : ∀ vs : List V, (gV vs).length = ps.length → vs.length = ks.length) (hg : Gl X x) (hkw : PK X kws tk)
    (hall : (backToKw pos (keywordEach kws X.env)).all (·.1.isSome) = true := by rfl) (hks : (backToKw pos (keywordEach kws X.env)).filterMap (·.1) = ks := by rfl)
    (hdb : (x == ("__debug__" : Str)) = false := by decide)
    (hpl : ((backTo pos (starEach [] X.env)).any (·.1) || (backToKw pos (keywordEach kws X.env)).any (·.1.isNone)) = false := by rfl) :
    PE X (.Call (.Name x p) [] kws pos) (tClK sp gV tk) := by
  obtain ⟨f, fd, F, hm, W⟩ := c.ex
  refine ⟨fun pins s σ H Q I h => ?_⟩
  refine wpAny_Call_Name_kw (ld_glob I hg hm ?_ hdb)
  refine PySem.W.callWith_KW0 (h₀ := X.base) I.ok.mod.kin W.kp hall (thn (hkw.run pos pins s σ H _ I h) ?_) hpl
  intro ws s2 ⟨zs, H2, I2, rz, q2⟩
  refine ⟨I2.kIn, ?_⟩
  rw [hks]
  have l0 := F.size _ _ _ _ q2
  have l1 : ws.length = ks.length := by
    rw [← rz.length]
    exact hl _ l0
  have r2 := rel rz l1
  have hb : BindsTo s2 fd ⟨[], ks.zip ws⟩ (ps.zip (g ws)) := by
    obtain ⟨oc, od, kV, doc, pm, an, cdv, ct, osl, rfl, lk, hcd⟩ := W.ex
    exact .of_eq (hp kV doc pm an cdv ct ws l1)
  refine wpAny_call (codeAny_mono (F.go X.A hA X.stack s2 H2 ⟨[], ks.zip ws⟩ (g ws) (gV zs) Q E0 (hr.mono hk) I2.env0 hb r2 q2) ?_)
  intro r s' hq
  cases r with
  | error e => exact pass0 pins σ H2 s2 e s' I2 hq
  | ok fl => cases fl with
    | ret u => exact I2.after hq
    | next => exact hq.elim
    | brk => exact hq.elim
    | cont => exact hq.elim
end

/-! ### operators for whatever comes -/
section
variable {X : Cx}
theorem OpR_or {f : Value → Value → Sem Value} {r r' : R2} (h : OpR X f r) (h' : OpR X f r') : OpR X f (fun x y H Q => r x y H Q ∨ r' x y H Q) := by
  intro pins s σ H x y v u Q I rx ry q
  cases q with
  | inl q => exact h pins s σ H x y v u Q I rx ry q
  | inr q => exact h' pins s σ H x y v u Q I rx ry q
def CMulU (i j : Int) : Prop := CMul i j ∨ CMulW i j
theorem op_mulI : OpR X (binaryOp .Mult) (rI CMulU fun i j => .int (i * j)) := by
  intro pins s σ H x y v u Q I rx ry q
  obtain ⟨i, j, e1, e2, c, q⟩ := q
  cases c with
  | inl c => exact op_mul pins s σ H x y v u Q I rx ry ⟨i, j, e1, e2, c, q⟩
  | inr c => exact op_mulW pins s σ H x y v u Q I rx ry ⟨i, j, e1, e2, c, q⟩
def rAddU : R2 := fun x y H Q => rI0 (fun i j => .int (i + j)) x y H Q ∨ rCat x y H Q
theorem op_addU : OpR X (binaryOp .Add) rAddU := OpR_or op_add op_cat
def rMulU : R2 := fun x y H Q => rI CMulU (fun i j => .int (i * j)) x y H Q ∨ rRep x y H Q
theorem op_mulU : OpR X (binaryOp .Mult) rMulU := OpR_or op_mulI op_rep
def rEqU (K : PySem.W.Frag) : R2 := fun x y H Q => rEq x y H Q ∨ rEqD K x y H Q
def rNeU (K : PySem.W.Frag) : R2 := fun x y H Q => rNe x y H Q ∨ rNeD K x y H Q
theorem op_eqU (hu : X.A.units + 64 < cLine) : OpR X (compareOp .Eq) (rEqU X.K) := OpR_or op_eq (op_eqD hu)
theorem op_neU (hu : X.A.units + 64 < cLine) : OpR X (compareOp .NotEq) (rNeU X.K) := OpR_or op_ne (op_neD hu)
/-- is of a bool that is written -/
def rIsT (b : Bool) : R2 := fun x y H Q => y = .bl b ∧ ((∃ a, x = .bl a ∧ Q (.bl (decide (a = b))) H) ∨ (∃ i, x = .int i ∧ Q (.bl false) H))
def rNotT (b : Bool) : R2 := fun x y H Q => y = .bl b ∧ ((∃ a, x = .bl a ∧ Q (.bl (!decide (a = b))) H) ∨ (∃ i, x = .int i ∧ Q (.bl true) H))
theorem op_notT {b : Bool} : OpR X (compareOp .IsNot) (rNotT b) := by
  intro pins s σ H x y v u Q I rx ry h
  obtain ⟨rfl, h⟩ := h
  rcases h with ⟨a, rfl, q⟩ | ⟨i, rfl, q⟩
  · exact op_notBl pins s σ H _ _ v u Q I rx ry ⟨a, b, rfl, rfl, q⟩
  · obtain ⟨t, rfl⟩ := rx
    cases (show u = Value.bool b from ry)
    exact wpAny_isNot_other rfl (fun z => Value.noConfusion z) ⟨.bl true, H, I, rfl, q⟩
/-- is None, is not None -/
def rIsN : R2 := fun x y H Q => y = .non ∧ Q (.bl (decide (x = .non))) H
def rNotN : R2 := fun x y H Q => y = .non ∧ Q (.bl (!decide (x = .non))) H
theorem op_isNU : OpR X (compareOp .Is) rIsN := op_isN
theorem op_notNU : OpR X (compareOp .IsNot) rNotN := op_notN

/-- what a for walks: one rule or another -/
theorem pi_or {tg it : Expr} {w1 w2 : TI} (h1 : PI X tg it w1) (h2 : PI X tg it w2) : PI X tg it (fun σ H R => w1 σ H R ∨ w2 σ H R) := by
  refine ⟨fun pins s σ H R I h => ?_⟩
  cases h with
  | inl h => exact h1.run pins s σ H R I h
  | inr h => exact h2.run pins s σ H R I h
end

/-! ### isinstance(e, (list, tuple)): the tuple of classes is not tracked -/
def tSeqP (K : PySem.W.Frag) (te : TE) : TE := fun σ H Q => te σ H fun x H1 => ∃ t b, TyX K H1 x (.type t) ∧ PySem.W.kitAny K (.type t) [.type "list", .type "tuple"] = some b ∧ Q (.bl b) H1
section
variable {X : Cx} {e : Expr} {te : TE} {p p1 p2 pt pos : Pos} {kt : Nat}
theorem pe_isSeq (hg : Gl X "isinstance") (hm : X.mg "isinstance" = none) (hg1 : Gl X "list") (hm1 : X.mg "list" = none) (hg2 : Gl X "tuple") (hm2 : X.mg "tuple" = none) (he : PE X e te)
    (hs : starEach [e, .Tuple [.Name "list" p1, .Name "tuple" p2] kt pt] X.env = [(false, eval e X.env), (false, eval (.Tuple [.Name "list" p1, .Name "tuple" p2] kt pt) X.env)] := by rfl)
    (hi : starEach [.Name "list" p1, .Name "tuple" p2] X.env = [(false, eval (.Name "list" p1) X.env), (false, eval (.Name "tuple" p2) X.env)] := by rfl) :
    PE X (.Call (.Name "isinstance" p) [e, .Tuple [.Name "list" p1, .Name "tuple" p2] kt pt] [] pos) (tSeqP X.K te) := by
  refine ⟨fun pins s σ H Q I h => ?_⟩
  have hv : bootBuiltins "isinstance" = some (.builtin "isinstance") := by decide +kernel
  refine wpAny_Call_Name_kw (ld_blt I hg hm hv ?_ (by decide) (by decide))
  refine PyProof.Rows.callWith_builtin1 ?_ (by rw [hs]; rfl) (by rfl)
  rw [hs]
  show wpAny _ _ (spliced ((false, eval e X.env) :: backTo pos [(false, eval (.Tuple [.Name "list" p1, .Name "tuple" p2] kt pt) X.env)])) _ _ s
  refine Calls.spliced_cons (thn (he.run pins s σ H _ I h) ?_)
  intro u s1 ⟨x, H1, I1, r1, t, b, ty, kt', q⟩
  refine Calls.spliced_cons (wpAny_mono (Q := fun v s2 => v = .ref s1.heap.objs.size ∧ s2 = { s1 with heap := s1.heap.push { cls := .type "tuple", data := .seq [Value.type "list", Value.type "tuple"].toArray } }) ?_ ?_ (fun _ _ z => z))
  · refine wpAny_Tuple_spliced (x1 := kt) ?_
    rw [hi]
    show wpAny _ _ (spliced ((false, eval (.Name "list" p1) X.env) :: backTo pt [(false, eval (.Name "tuple" p2) X.env)])) _ _ s1
    refine Calls.spliced_cons (ld_blt I1 hg1 hm1 PyProof.Rows.boot_list ?_ (by decide) (by decide))
    refine Calls.spliced_cons (ld_blt I1 hg2 hm2 PyProof.Rows.boot_tuple ?_ (by decide) (by decide))
    refine Calls.spliced_nil ?_
    exact ⟨by show 2 ≤ sizeLine; decide, rfl, rfl⟩
  · intro v s2 hv
    obtain ⟨rfl, rfl⟩ := hv
    refine Calls.spliced_nil ?_
    have I2 := I1.kept (h' := s1.heap.push { cls := .type "tuple", data := .seq [Value.type "list", Value.type "tuple"].toArray }) (t' := s1.toks) (fun b u e => Heap.get?_push_of_some _ e)
    obtain ⟨Pz, Z, pz, hx⟩ := kit_of I2 r1 ty
    exact PySem.W.kia_tup Z I2.kIn pz (Heap.get?_push_size _ rfl) kt' hx fun tk => ⟨.bl b, H1, I2.tok tk, rfl, q⟩
end
end Mf
namespace Mf
open PySem PySem.Spec PyProof.Rows L2

/-! ### readings, step by step -/
section
variable {K : PySem.W.Frag} {σ : L2.St} {H : Hp} {Q : VK} {v x y : V} {ta tb te : TE} {t u tt : TT} {tr : TA} {r : R2} {D : Ends} {t1 t2 : TS}
theorem g_var {i : Nat} (h : σ[i]? = some (some v)) (q : Q v H) : tVar i σ H Q := ⟨v, h, q⟩
theorem g_c (q : Q v H) : tC v σ H Q := q
theorem g_op (q : ta σ H fun x H1 => tb σ H1 fun y H2 => r x y H2 Q) : tOp r ta tb σ H Q := q
theorem g_un {r : V → Hp → VK → Prop} (q : ta σ H fun x H1 => r x H1 Q) : tUn r ta σ H Q := q
theorem g_cb {r : List V → Hp → VK → Prop} (q : tr σ H fun vs H1 => r vs H1 Q) : tCB r tr σ H Q := q
theorem g_cl {sp : Sp} (q : tr σ H fun vs H1 => sp vs H1 Q E0) : tCl sp tr σ H Q := q
theorem g_clk {sp : Sp} {g : List V → List V} (q : tr σ H fun vs H1 => sp (g vs) H1 Q E0) : tClK sp g tr σ H Q := q
theorem g_nil {R : List V → Hp → Prop} (q : R [] H) : tNil σ H R := q
theorem g_cons {R : List V → Hp → Prop} (q : ta σ H fun x H1 => tr σ H1 fun xs H2 => R (x :: xs) H2) : tCons ta tr σ H R := q
theorem g_tB {R : Bool → Hp → Prop} (q : te σ H fun x H1 => ∃ c, x = .bl c ∧ R c H1) : tB te σ H R := q
theorem g_test {R : Bool → Hp → Prop} (q : te σ H fun x H1 => ∃ c, x = .bl c ∧ R c H1) : tTest te σ H R := q
theorem g_bl {b : Bool} {R : Bool → Prop} (q : R b) : ∃ c, V.bl b = .bl c ∧ R c := ⟨b, rfl, q⟩
theorem g_and {R : Bool → Hp → Prop} (q : t σ H fun c H1 => if c = true then u σ H1 R else R false H1) : tAnd t u σ H R := q
theorem g_or {R : Bool → Hp → Prop} (q : t σ H fun c H1 => if c = true then R true H1 else u σ H1 R) : tOr t u σ H R := q
theorem g_not {R : Bool → Hp → Prop} (q : t σ H fun c H1 => R (!c) H1) : tNot t σ H R := q
theorem g_andV (q : ta σ H fun x H1 => ∃ c, x = .bl c ∧ if c = true then tb σ H1 Q else Q (.bl false) H1) : tAndV ta tb σ H Q := q
theorem g_orV (q : ta σ H fun x H1 => ∃ c, x = .bl c ∧ if c = true then Q (.bl true) H1 else tb σ H1 Q) : tOrV ta tb σ H Q := q
theorem g_notV (q : ta σ H fun x H1 => ∃ c, x = .bl c ∧ Q (.bl (!c)) H1) : tNotV ta σ H Q := q
theorem g_if (q : t σ H fun c H1 => if c = true then ta σ H1 Q else tb σ H1 Q) : tIf t ta tb σ H Q := q
theorem g_ifS (q : t σ H fun b H1 => if b = true then t1 D σ H1 else t2 D σ H1) : tIfS t t1 t2 D σ H := q
theorem g_seq (q : t1 ⟨t2 D, D.rt, D.bk, D.ct⟩ σ H) : tSeq t1 t2 D σ H := q
theorem g_next (q : D.nx σ H) : tNext D σ H := q
theorem g_ret (q : te σ H D.rt) : tRet te D σ H := q
theorem g_drop (q : te σ H fun _ H1 => D.nx σ H1) : tDrop te D σ H := q
theorem g_asg {g : TG} (q : te σ H fun x H1 => g x σ H1 D.nx) : tAsg te g D σ H := q
theorem g_name {i : Nat} {R : L2.St → Hp → Prop} (q : R (σ.set i (some v)) H) : gName i v σ H R := q
theorem g_I0 {g : Int → Int → V} {i j : Int} (q : Q (g i j) H) : rI0 g (.int i) (.int j) H Q := ⟨i, j, rfl, rfl, q⟩
theorem g_I {C : Int → Int → Prop} {g : Int → Int → V} {i j : Int} (c : C i j) (q : Q (g i j) H) : rI C g (.int i) (.int j) H Q := ⟨i, j, rfl, rfl, c, q⟩
theorem g_addI {i j : Int} (q : Q (.int (i + j)) H) : rAddU (.int i) (.int j) H Q := .inl ⟨i, j, rfl, rfl, q⟩
theorem g_mulI {i j : Int} (c : CMulU i j) (q : Q (.int (i * j)) H) : rMulU (.int i) (.int j) H Q := .inl ⟨i, j, rfl, rfl, c, q⟩
theorem g_U {g : Int → V} {i : Int} (q : Q (g i) H) : rU g (.int i) H Q := ⟨i, rfl, q⟩
theorem g_isN (q : Q (.bl (decide (x = .non))) H) : rIsN x .non H Q := ⟨rfl, q⟩
theorem g_notN (q : Q (.bl (!decide (x = .non))) H) : rNotN x .non H Q := ⟨rfl, q⟩
theorem g_notTb {a b : Bool} (q : Q (.bl (!decide (a = b))) H) : rNotT b (.bl a) (.bl b) H Q := ⟨rfl, .inl ⟨a, rfl, q⟩⟩
theorem g_notT1 (q : Q (.bl false) H) : rNotT true (.bl true) (.bl true) H Q := ⟨rfl, .inl ⟨true, rfl, q⟩⟩
theorem g_notT2 (q : Q (.bl true) H) : rNotT true (.bl false) (.bl true) H Q := ⟨rfl, .inl ⟨false, rfl, q⟩⟩
theorem g_notT3 (q : Q (.bl true) H) : rNotT false (.bl true) (.bl false) H Q := ⟨rfl, .inl ⟨true, rfl, q⟩⟩
theorem g_notT4 (q : Q (.bl false) H) : rNotT false (.bl false) (.bl false) H Q := ⟨rfl, .inl ⟨false, rfl, q⟩⟩
theorem g_notTi {i : Int} {b : Bool} (q : Q (.bl true) H) : rNotT b (.int i) (.bl b) H Q := ⟨rfl, .inr ⟨i, rfl, q⟩⟩
theorem g_eqI {i j : Int} (q : Q (.bl (decide (i = j))) H) : rEqU K (.int i) (.int j) H Q := .inl ⟨rfl, by
  have e : decide (V.int i = V.int j) = decide (i = j) := by
    by_cases h : i = j
    · subst h; simp
    · simp [h]
  rw [e]; exact q⟩
theorem g_neI {i j : Int} (q : Q (.bl (!decide (i = j))) H) : rNeU K (.int i) (.int j) H Q := .inl ⟨rfl, by
  have e : decide (V.int i = V.int j) = decide (i = j) := by
    by_cases h : i = j
    · subst h; simp
    · simp [h]
  rw [e]; exact q⟩
theorem g_neS {a b : Str} (q : Q (.bl (!decide (a = b))) H) : rNeU K (.str a) (.str b) H Q := .inl ⟨rfl, by
  have e : decide (V.str a = V.str b) = decide (a = b) := by
    by_cases h : a = b
    · subst h; simp
    · simp [h]
  rw [e]; exact q⟩
theorem g_eqS {a b : Str} (q : Q (.bl (decide (a = b))) H) : rEqU K (.str a) (.str b) H Q := .inl ⟨rfl, by
  have e : decide (V.str a = V.str b) = decide (a = b) := by
    by_cases h : a = b
    · subst h; simp
    · simp [h]
  rw [e]; exact q⟩
theorem g_iteT {A B : Prop} (h : A) : if true = true then A else B := iteT h
theorem g_iteF {A B : Prop} (h : B) : if false = true then A else B := iteF h
theorem g_iteNT {A B : Prop} (h : B) : if (!true) = true then A else B := iteF h
theorem g_iteNF {A B : Prop} (h : A) : if (!false) = true then A else B := iteT h
theorem g_ite {b : Bool} {A B : Prop} (h1 : b = true → A) (h2 : b = false → B) : if b = true then A else B := by
  cases b with
  | true => exact iteT (h1 rfl)
  | false => exact iteF (h2 rfl)
/-- a new list, a new tuple -/
theorem same_new {H : Hp} {p : Addr} {o : HO} (h : H p = none) : Same H (upd H p o) := fun b z e => by
  rw [upd_ne (ne_of_none e h)]
  exact e
/-- a new list, a new tuple is laid -/
def NewL (xs : List V) (H : Hp) (Q : VK) : Prop := xs.length ≤ sizeLine ∧ ∀ p, H p = none → Q (.ref p) (upd H p (.lst xs))
def NewT (xs : List V) (H : Hp) (Q : VK) : Prop := xs.length ≤ sizeLine ∧ ∀ p, H p = none → Q (.ref p) (upd H p (.tup xs))
theorem g_newL {xs : List V} (hl : xs.length ≤ sizeLine) (q : ∀ p H2, H p = none → Same H H2 → H2 p = some (.lst xs) → Q (.ref p) H2) : NewL xs H Q :=
  ⟨hl, fun p hp => q p _ hp (same_new hp) upd_same⟩
theorem g_newT {xs : List V} (hl : xs.length ≤ sizeLine) (q : ∀ p H2, H p = none → Same H H2 → H2 p = some (.tup xs) → Q (.ref p) H2) : NewT xs H Q :=
  ⟨hl, fun p hp => q p _ hp (same_new hp) upd_same⟩
theorem g_lst (q : tr σ H fun xs H1 => NewL xs H1 Q) : tLst tr σ H Q := q
theorem g_tup (q : tr σ H fun xs H1 => NewT xs H1 Q) : tTup tr σ H Q := q
/-- a list and a list, one behind another -/
theorem g_cat {l b : Addr} {xs zs : List V} (h1 : H l = some (.lst xs)) (h2 : H b = some (.lst zs)) (hz : xs.length + zs.length ≤ sizeLine)
    (q : ∀ p H2, H p = none → Same H H2 → H2 p = some (.lst (xs ++ zs)) → Q (.ref p) H2) : rAddU (.ref l) (.ref b) H Q :=
  .inr ⟨l, b, xs, zs, rfl, rfl, h1, h2, hz, fun p hp => q p _ hp (same_new hp) upd_same⟩
theorem g_rep {l : Addr} {k : Int} {xs : List V} (h1 : H l = some (.lst xs)) (k0 : 0 ≤ k) (k1 : k ≤ 1000) (hz : xs.length * k.toNat ≤ sizeLine)
    (q : ∀ p H2, H p = none → Same H H2 → H2 p = some (.lst (List.replicate k.toNat xs).flatten) → Q (.ref p) H2) : rMulU (.ref l) (.int k) H Q :=
  .inr ⟨l, k, xs, rfl, rfl, h1, by omega, by omega, hz, fun p hp => q p _ hp (same_new hp) upd_same⟩
/-- built-in functions, their readings by name -/
def rIntU : List V → Hp → VK → Prop := fun xs H Q => (∃ i, xs = [.int i] ∧ Q (.int i) H) ∨ ∃ k, xs = [.bl k] ∧ Q (.int (if k then 1 else 0)) H
theorem call_intU {X : Cx} : CallR X (.type "int") rIntU := call_int1
def rAbsU : List V → Hp → VK → Prop := fun xs H Q => ∃ i, xs = [.int i] ∧ Q (.int (if i < 0 then -i else i)) H
theorem call_absU {X : Cx} : CallR X (.builtin "abs") rAbsU := call_abs
def rLenU (K : PySem.W.Frag) : List V → Hp → VK → Prop := fun xs H Q => ∃ x n, xs = [x] ∧ LenV K x H n ∧ Q (.int (n : Nat)) H
theorem call_lenU {X : Cx} : CallR X (.builtin "len") (rLenU X.K) := call_len
def rReprU (K : PySem.W.Frag) : List V → Hp → VK → Prop := fun xs H Q => ∃ (v : V) (d : PyData), xs = [v] ∧ Dp K H v d ∧
    d.showable = true ∧ d.hasDict = false ∧ d.depth ≤ 60 ∧ d.shown.length ≤ sizeLine ∧ Q (.str d.shown) H
theorem call_reprU {X : Cx} (hA : X.A.guards = some []) (hu : X.A.units + 64 < cLine) : CallR X (.builtin "repr") (rReprU X.K) := by
  intro pins s σ H xs us Q I r h
  obtain ⟨v, d, rfl, hd, hs, hn, hdep, hz, q⟩ := h
  have arm := @call_reprD X hA hu pins s σ H [v] us Q I r
  obtain ⟨u, rfl, rx⟩ := vals1 r
  cases hd with
  | non =>
    cases (show u = Value.none from rx)
    exact PySem.P.repr_of_none ⟨.str _, H, I.tok _, ⟨_, rfl⟩, q⟩
  | bl b =>
    cases (show u = Value.bool b from rx)
    exact PySem.P.repr_of_bool ⟨.str _, H, I.tok _, ⟨_, rfl⟩, q⟩
  | int i =>
    obtain ⟨t, rfl⟩ := (show ∃ t, u = Value.int i t from rx)
    exact PySem.P.repr_of_int (of_decide_eq_true hs) ⟨.str _, H, I.tok _, ⟨_, rfl⟩, q⟩
  | str x =>
    obtain ⟨t, rfl⟩ := (show ∃ t, u = Value.str x t from rx)
    exact PySem.P.repr_of_str ⟨.str _, H, I.tok _, ⟨_, rfl⟩, q⟩ hz
  | lst h1 h2 => exact arm ⟨_, _, rfl, .lst h1 h2, hs, hn, hdep, hz, q⟩
  | tup h1 h2 => exact arm ⟨_, _, rfl, .tup h1 h2, hs, hn, hdep, hz, q⟩
theorem g_int {i : Int} (q : Q (.int i) H) : rIntU [.int i] H Q := .inl ⟨i, rfl, q⟩
theorem g_intB {k : Bool} (q : Q (.int (if k then 1 else 0)) H) : rIntU [.bl k] H Q := .inr ⟨k, rfl, q⟩
theorem g_abs {i : Int} (q : Q (.int (if i < 0 then -i else i)) H) : rAbsU [.int i] H Q := ⟨i, rfl, q⟩
theorem g_isNn (q : Q (.bl true) H) : rIsN .non .non H Q := ⟨rfl, q⟩
theorem g_isNi {i : Int} (q : Q (.bl false) H) : rIsN (.int i) .non H Q := ⟨rfl, by simpa using q⟩
theorem g_repr {d : PyData} (h : Dp K H v d) (h1 : d.showable = true) (h2 : d.hasDict = false) (h3 : d.depth ≤ 60) (h4 : d.shown.length ≤ sizeLine) (q : Q (.str d.shown) H) : rReprU K [v] H Q :=
  ⟨v, d, rfl, h, h1, h2, h3, h4, q⟩
end

/-! ### what is kept but at q -/
structure SameX (q : Addr) (H H' : Hp) : Prop where
  kept : ∀ b o, b ≠ q → H b = some o → H' b = some o
  cell : ∀ c t r, H q = some (.lst [.ref c, t, r]) → ∃ t' r', H' q = some (.lst [.ref c, t', r'])
instance {q : Addr} {H H' : Hp} : CoeFun (SameX q H H') (fun _ => ∀ b o, b ≠ q → H b = some o → H' b = some o) := ⟨SameX.kept⟩
theorem Same.x {q : Addr} {H H' : Hp} (s : Same H H') : SameX q H H' := ⟨fun b o _ e => s b o e, fun c t r e => ⟨t, r, s _ _ e⟩⟩
theorem SameX.refl (q : Addr) (H : Hp) : SameX q H H := ⟨fun _ _ _ e => e, fun c t r e => ⟨t, r, e⟩⟩
theorem SameX.trans {q : Addr} {H H1 H2 : Hp} (a : SameX q H H1) (b : SameX q H1 H2) : SameX q H H2 := ⟨fun c o n e => b.kept c o n (a.kept c o n e), fun c t r e => by
  obtain ⟨t1, r1, e1⟩ := a.cell c t r e
  exact b.cell c t1 r1 e1⟩
theorem SameX.rd {q a : Addr} {H H' : Hp} {u : HO} (s : SameX q H H') (n : a ≠ q) (h : Rd H a u) : Rd H' a u := by
  rcases h with h | ⟨o, h⟩
  · exact .inl (s _ _ n h)
  · exact .inr ⟨o, s _ _ n h⟩
theorem SameX.seq {K : PySem.W.Frag} {q a : Addr} {H H' : Hp} {xs : List V} (s : SameX q H H') (n : a ≠ q) (h : SqL K H a xs) : SqL K H' a xs := by
  rcases h with h | h
  · exact .inl (s.rd n h)
  · exact .inr h
theorem SameX.tup {K : PySem.W.Frag} {q a : Addr} {H H' : Hp} {xs : List V} (s : SameX q H H') (n : a ≠ q) (h : SqT K H a xs) : SqT K H' a xs := by
  rcases h with h | h
  · exact .inl (s.rd n h)
  · exact .inr h
theorem seqU {K : PySem.W.Frag} {H : Hp} {a : Addr} {xs : List V} (h : H a = some (.lst xs)) : SqL K H a xs := .inl (.inl h)
theorem tupU {K : PySem.W.Frag} {H : Hp} {a : Addr} {xs : List V} (h : H a = some (.tup xs)) : SqT K H a xs := .inl (.inl h)

/-! ### what a value tells: any value of the laws' menus -/
mutual
inductive Dq (q : Addr) (K : PySem.W.Frag) (H : Hp) : V → PyData → Prop
  | non : Dq q K H .non .none
  | bl (b : Bool) : Dq q K H (.bl b) (.bool b)
  | int (i : Int) : Dq q K H (.int i) (.int i)
  | str (x : Str) : x.length ≤ 1000 → Dq q K H (.str x) (.str x)
  | lst {a : Addr} {xs : List V} {ds : List PyData} : a ≠ q → SqL K H a xs → DqAll q K H xs ds → Dq q K H (.ref a) (.list ds)
  | tup {a : Addr} {xs : List V} {ds : List PyData} : a ≠ q → SqT K H a xs → DqAll q K H xs ds → Dq q K H (.ref a) (.tuple ds)
  | dct {a : Addr} {kvs : List (Key × V)} : a ≠ q → H a = some (.dK kvs) → Dq q K H (.ref a) (.dict [])
inductive DqAll (q : Addr) (K : PySem.W.Frag) (H : Hp) : List V → List PyData → Prop
  | nil : DqAll q K H [] []
  | cons {v : V} {vs : List V} {d : PyData} {ds : List PyData} : Dq q K H v d → DqAll q K H vs ds → DqAll q K H (v :: vs) (d :: ds)
end
section
variable {q : Addr} {K : PySem.W.Frag} {H H' : Hp}
mutual
theorem Dq.go (s : SameX q H H') : ∀ {d : PyData} {v : V}, Dq q K H v d → Dq q K H' v d
  | _, _, .non => .non
  | _, _, .bl b => .bl b
  | _, _, .int i => .int i
  | _, _, .str x h => .str x h
  | _, _, .lst n h ha => .lst n (s.seq n h) (DqAll.go s ha)
  | _, _, .tup n h ha => .tup n (s.tup n h) (DqAll.go s ha)
  | _, _, .dct n h => .dct n (s _ _ n h)
theorem DqAll.go (s : SameX q H H') : ∀ {ds : List PyData} {vs : List V}, DqAll q K H vs ds → DqAll q K H' vs ds
  | _, _, .nil => .nil
  | _, _, .cons h t => .cons (Dq.go s h) (DqAll.go s t)
end
theorem DqAll.len : ∀ {vs : List V} {ds : List PyData}, DqAll q K H vs ds → vs.length = ds.length
  | _, _, .nil => rfl
  | _, _, .cons _ t => congrArg Nat.succ (DqAll.len t)
def noDct : PyData → Bool
  | .dict _ => false
  | .list ds | .tuple ds => all ds
  | _ => true
where all : List PyData → Bool
  | [] => true
  | d :: ds => noDct d && all ds
mutual
theorem Dq.dp : ∀ {d : PyData} {v : V}, Dq q K H v d → noDct d = true → Dp K H v d
  | _, _, .non, _ => .non
  | _, _, .bl b, _ => .bl b
  | _, _, .int i, _ => .int i
  | _, _, .str x h, _ => .str x
  | .list ds, _, .lst n h ha, e => .lst h (DqAll.dp ha (by unfold noDct at e; exact e))
  | .tuple ds, _, .tup n h ha, e => .tup h (DqAll.dp ha (by unfold noDct at e; exact e))
  | _, _, .dct n h, e => by unfold noDct at e; exact absurd e (by decide)
theorem DqAll.dp : ∀ {ds : List PyData} {vs : List V}, DqAll q K H vs ds → noDct.all ds = true → DpAll K H vs ds
  | _, _, .nil, _ => .nil
  | d :: ds, _, .cons h t, e => by
    unfold noDct.all at e
    rw [Bool.and_eq_true] at e
    exact .cons (Dq.dp h e.1) (DqAll.dp t e.2)
end
def tyN : PyData → String
  | .none => "NoneType"
  | .bool _ => "bool"
  | .int _ => "int"
  | .str _ => "str"
  | .list _ => "list"
  | .tuple _ => "tuple"
  | .dict _ => "dict"
theorem Dq.ty {d : PyData} {v : V} (h : Dq q K H v d) : TyX K H v (.type (tyN d)) := by
  cases h with
  | non => exact .base .non
  | bl b => exact .base (.bl b)
  | int i => exact .base (.int i)
  | str x => exact .base (.str x)
  | lst n h ha =>
    rcases h with (h | ⟨o, h⟩) | ⟨o, its, m, e, c, _⟩
    · exact .base (.lst h)
    · exact .base (.frz h)
    · exact .kList e c
  | tup n h ha =>
    rcases h with (h | ⟨o, h⟩) | ⟨o, its, m, e, c, _⟩
    · exact .base (.tup h)
    · exact .fTuple h
    · exact .kTuple e c
  | dct n h => exact .base (.dK h)
def isSeqD : PyData → Bool
  | .list _ | .tuple _ => true
  | _ => false
def isIntB : PyData → Bool
  | .int _ | .bool _ => true
  | _ => false
def isIntD : PyData → Bool
  | .int _ => true
  | _ => false
def posD : PyData → Bool
  | .int i => decide (1 ≤ i)
  | _ => false
def isFrD : PyData → Bool
  | .int _ => true
  | .list [a, b] | .tuple [a, b] => isIntD a && posD b
  | _ => false
theorem kit_seq (d : PyData) : PySem.W.kitAny K (.type (tyN d)) [.type "list", .type "tuple"] = some (isSeqD d) := by
  cases d with
  | none => exact kitAny_cons (b := false) (r := false) (kit_ty (show kitB "NoneType" "list" = some false by decide +kernel)) (fun _ => kitAny_cons (b := false) (r := false) (kit_ty (show kitB "NoneType" "tuple" = some false by decide +kernel)) (fun _ => kitAny_nil) (fun z => by cases z)) (fun z => by cases z)
  | bool _ => exact kitAny_cons (b := false) (r := false) (kit_ty (show kitB "bool" "list" = some false by decide +kernel)) (fun _ => kitAny_cons (b := false) (r := false) (kit_ty (show kitB "bool" "tuple" = some false by decide +kernel)) (fun _ => kitAny_nil) (fun z => by cases z)) (fun z => by cases z)
  | int _ => exact kitAny_cons (b := false) (r := false) (kit_ty (show kitB "int" "list" = some false by decide +kernel)) (fun _ => kitAny_cons (b := false) (r := false) (kit_ty (show kitB "int" "tuple" = some false by decide +kernel)) (fun _ => kitAny_nil) (fun z => by cases z)) (fun z => by cases z)
  | str _ => exact kitAny_cons (b := false) (r := false) (kit_ty (show kitB "str" "list" = some false by decide +kernel)) (fun _ => kitAny_cons (b := false) (r := false) (kit_ty (show kitB "str" "tuple" = some false by decide +kernel)) (fun _ => kitAny_nil) (fun z => by cases z)) (fun z => by cases z)
  | list _ => exact kitAny_cons (b := true) (r := true) (kit_ty (show kitB "list" "list" = some true by decide +kernel)) (fun z => by cases z) (fun _ => rfl)
  | tuple _ => exact kitAny_cons (b := false) (r := true) (kit_ty (show kitB "tuple" "list" = some false by decide +kernel)) (fun _ => kitAny_cons (b := true) (r := true) (kit_ty (show kitB "tuple" "tuple" = some true by decide +kernel)) (fun z => by cases z) (fun _ => rfl)) (fun z => by cases z)
  | dict _ => exact kitAny_cons (b := false) (r := false) (kit_ty (show kitB "dict" "list" = some false by decide +kernel)) (fun _ => kitAny_cons (b := false) (r := false) (kit_ty (show kitB "dict" "tuple" = some false by decide +kernel)) (fun _ => kitAny_nil) (fun z => by cases z)) (fun z => by cases z)
theorem kit_int (d : PyData) : PySem.W.kitOne K (.type (tyN d)) (.type "int") = some (isIntB d) := by
  cases d with
  | none => exact kit_ty (show kitB "NoneType" "int" = some false by decide +kernel)
  | bool _ => exact kit_ty (show kitB "bool" "int" = some true by decide +kernel)
  | int _ => exact kit_ty (show kitB "int" "int" = some true by decide +kernel)
  | str _ => exact kit_ty (show kitB "str" "int" = some false by decide +kernel)
  | list _ => exact kit_ty (show kitB "list" "int" = some false by decide +kernel)
  | tuple _ => exact kit_ty (show kitB "tuple" "int" = some false by decide +kernel)
  | dict _ => exact kit_ty (show kitB "dict" "int" = some false by decide +kernel)
def isTupD : PyData → Bool
  | .tuple _ => true
  | _ => false
theorem kit_tuple (d : PyData) : PySem.W.kitOne K (.type (tyN d)) (.type "tuple") = some (isTupD d) := by
  cases d with
  | none => exact kit_ty (show kitB "NoneType" "tuple" = some false by decide +kernel)
  | bool _ => exact kit_ty (show kitB "bool" "tuple" = some false by decide +kernel)
  | int _ => exact kit_ty (show kitB "int" "tuple" = some false by decide +kernel)
  | str _ => exact kit_ty (show kitB "str" "tuple" = some false by decide +kernel)
  | list _ => exact kit_ty (show kitB "list" "tuple" = some false by decide +kernel)
  | tuple _ => exact kit_ty (show kitB "tuple" "tuple" = some true by decide +kernel)
  | dict _ => exact kit_ty (show kitB "dict" "tuple" = some false by decide +kernel)
def isBoolD : PyData → Bool
  | .bool _ => true
  | _ => false
theorem kit_bool (d : PyData) : PySem.W.kitOne K (.type (tyN d)) (.type "bool") = some (isBoolD d) := by
  cases d with
  | none => exact kit_ty (show kitB "NoneType" "bool" = some false by decide +kernel)
  | bool _ => exact kit_ty (show kitB "bool" "bool" = some true by decide +kernel)
  | int _ => exact kit_ty (show kitB "int" "bool" = some false by decide +kernel)
  | str _ => exact kit_ty (show kitB "str" "bool" = some false by decide +kernel)
  | list _ => exact kit_ty (show kitB "list" "bool" = some false by decide +kernel)
  | tuple _ => exact kit_ty (show kitB "tuple" "bool" = some false by decide +kernel)
  | dict _ => exact kit_ty (show kitB "dict" "bool" = some false by decide +kernel)
variable {Q : VK} {σ : L2.St} {te : TE}
def SeqQ (K : PySem.W.Frag) (v : V) (H : Hp) (Q : VK) : Prop := ∃ t b, TyX K H v (.type t) ∧ PySem.W.kitAny K (.type t) [.type "list", .type "tuple"] = some b ∧ Q (.bl b) H
theorem g_seqP (h : te σ H fun x H1 => SeqQ K x H1 Q) : tSeqP K te σ H Q := h
theorem g_seqQ {v : V} {d : PyData} (h : Dq q K H v d) (k : Q (.bl (isSeqD d)) H) : SeqQ K v H Q :=
  ⟨_, _, h.ty, kit_seq d, k⟩
theorem g_isiI {v : V} {d : PyData} (h : Dq q K H v d) (k : Q (.bl (isIntB d)) H) : rIsi K [v, .ty "int"] H Q :=
  ⟨v, .ty "int", _, _, _, rfl, .ty "int", h.ty, kit_int d, k⟩
theorem g_isiT {v : V} {d : PyData} (h : Dq q K H v d) (k : Q (.bl (isTupD d)) H) : rIsi K [v, .ty "tuple"] H Q :=
  ⟨v, .ty "tuple", _, _, _, rfl, .ty "tuple", h.ty, kit_tuple d, k⟩
theorem g_isiB {v : V} {d : PyData} (h : Dq q K H v d) (k : Q (.bl (isBoolD d)) H) : rIsi K [v, .ty "bool"] H Q :=
  ⟨v, .ty "bool", _, _, _, rfl, .ty "bool", h.ty, kit_bool d, k⟩
/-- a list or a tuple -/
def Sq (K : PySem.W.Frag) (H : Hp) (a : Addr) (xs : List V) : Prop := SqL K H a xs ∨ SqT K H a xs
theorem Sq.go {a : Addr} {xs : List V} (s : SameX q H H') (n : a ≠ q) (h : Sq K H a xs) : Sq K H' a xs := by
  rcases h with h | h
  · exact .inl (s.seq n h)
  · exact .inr (s.tup n h)
theorem Dq.seq {d : PyData} {v : V} (h : Dq q K H v d) (e : isSeqD d = true) : ∃ a xs ds, v = .ref a ∧ a ≠ q ∧ Sq K H a xs ∧ DqAll q K H xs ds ∧ (d = .list ds ∨ d = .tuple ds) := by
  cases h with
  | lst n h ha => exact ⟨_, _, _, rfl, n, .inl h, ha, .inl rfl⟩
  | tup n h ha => exact ⟨_, _, _, rfl, n, .inr h, ha, .inr rfl⟩
  | _ => cases e
theorem g_ix {a : Addr} {xs : List V} {i : Int} {v : V} (h : Sq K H a xs) (e : atI xs i = some v) (k : Q v H) : rIx K (.ref a) (.int i) H Q := by
  rcases h with h | h
  · exact .inl ⟨a, xs, i, v, rfl, rfl, h, e, k⟩
  · exact .inr (.inl ⟨a, xs, i, v, rfl, rfl, h, e, k⟩)
theorem g_len {a : Addr} {xs : List V} (h : Sq K H a xs) (k : Q (.int (xs.length : Int)) H) : rLenU K [.ref a] H Q := by
  rcases h with h | h
  · exact ⟨.ref a, xs.length, rfl, .inl ⟨xs, h, rfl⟩, k⟩
  · exact ⟨.ref a, xs.length, rfl, .inr ⟨xs, h, rfl⟩, k⟩
def valD : PyData → Int
  | .int i => i
  | _ => 0
/-- a bound, or none -/
def bdV : Option Int → V
  | none => .non
  | some i => .int i
def loB (l : Option Int) (i : Int) : Bool := match l with | none => true | some m => decide (m ≤ i)
def hiB (l : Option Int) (i : Int) : Bool := match l with | none => true | some m => decide (i ≤ m)
def wthD (d : PyData) (l m : Option Int) : Bool := isIntD d && (loB l (valD d) && hiB m (valD d))
def isPlD : PyData → Bool
  | .list [a, b] | .tuple [a, b] => isFrD a && isFrD b
  | _ => false
theorem posD_eq (d : PyData) : posD d = wthD d (some 1) none := by
  cases d with
  | int i =>
    show decide (1 ≤ i) = (true && (decide (1 ≤ i) && true))
    rw [Bool.true_and, Bool.and_true]
  | _ => rfl
theorem Dq.int_of {d : PyData} {v : V} (h : Dq q K H v d) (e : isIntD d = true) : v = .int (valD d) ∧ d = .int (valD d) := by
  cases h with
  | int i => exact ⟨rfl, rfl⟩
  | _ => cases e
theorem frD_two {d : PyData} {ds : List PyData} (e : d = .list ds ∨ d = .tuple ds) (n : ds.length ≠ 2) : isFrD d = false ∧ isPlD d = false := by
  rcases e with rfl | rfl
  all_goals
    match ds, n with
    | [], _ => exact ⟨rfl, rfl⟩
    | [_], _ => exact ⟨rfl, rfl⟩
    | [_, _], n => exact absurd rfl n
    | _ :: _ :: _ :: _, _ => exact ⟨rfl, rfl⟩
theorem frD_of {d x y : PyData} (e : d = .list [x, y] ∨ d = .tuple [x, y]) : isFrD d = (isIntD x && posD y) ∧ isPlD d = (isFrD x && isFrD y) := by
  rcases e with rfl | rfl <;> exact ⟨rfl, rfl⟩
theorem frD_no {d : PyData} (e : isIntD d = false) (n : isSeqD d = false) : isFrD d = false := by
  cases d with
  | int i => cases e
  | list ds => cases n
  | tuple ds => cases n
  | _ => rfl
theorem plD_no {d : PyData} (n : isSeqD d = false) : isPlD d = false := by
  cases d with
  | list ds => cases n
  | tuple ds => cases n
  | _ => rfl
theorem frD_int {d : PyData} (e : isIntD d = true) : isFrD d = true := by
  cases d with
  | int i => rfl
  | _ => cases e
theorem two_of {vs : List V} {ds : List PyData} (h : DqAll q K H vs ds) (e : vs.length = 2) : ∃ x y a b, vs = [x, y] ∧ ds = [a, b] ∧ Dq q K H x a ∧ Dq q K H y b := by
  cases h with
  | nil => cases e
  | cons h1 t => cases t with
    | nil => cases e
    | cons h2 t => cases t with
      | nil => exact ⟨_, _, _, _, rfl, rfl, h1, h2⟩
      | cons h3 t =>
        rw [List.length_cons, List.length_cons, List.length_cons] at e
        omega
theorem relR {vs : List V} {us : List Value} {ks : List Str} (r : Vals vs us) (_ : us.length = ks.length) : Vals vs.reverse us.reverse := r.reverse
theorem lenR {ps ks : List Str} (h : ps.length = ks.length) (vs : List V) (e : vs.reverse.length = ps.length) : vs.length = ks.length := by
  rw [List.length_reverse] at e
  omega
end
end Mf
namespace Mf
open PySem PySem.Spec PyProof.Rows L2
section
variable {K : PySem.W.Frag} {σ : L2.St} {H H1 : Hp} {Q : VK} {v x y : V} {ta tb te tl : TE} {tt : TT} {tr : TA} {g : TG} {vs : List Nat}
/-! ### slices, comprehensions -/
theorem g_sl {r : V → Option Int → Option Int → Hp → VK → Prop} {to th : TO} (q : te σ H fun x H1 => to σ H1 fun l H2 => th σ H2 fun u H3 => r x l u H3 Q) : tSl r te to th σ H Q := q
theorem g_noPart {R : Option Int → Hp → Prop} (q : R none H) : tNoPart σ H R := q
theorem g_part {R : Option Int → Hp → Prop} (q : te σ H fun x H1 => ∃ i, x = .int i ∧ R (some i) H1) : tPart te σ H R := q
theorem g_ii {i : Int} {R : Int → Prop} (q : R i) : ∃ j, V.int i = .int j ∧ R j := ⟨i, rfl, q⟩
theorem g_slL {a : Addr} {xs : List V} {lo hi : Option Int} (h : SqL K H a xs) (q : ∀ p H2, H p = none → Same H H2 → H2 p = some (.lst (cutV xs lo hi)) → Q (.ref p) H2) : rSlL K (.ref a) lo hi H Q :=
  ⟨a, xs, rfl, h, fun p hp => q p _ hp (same_new hp) upd_same⟩
theorem cut_ints (ns : List Int) (lo hi : Option Int) : ∃ ms : List Int, cutV (ns.map V.int) lo hi = ms.map V.int ∧ ms.length ≤ ns.length := by
  unfold cutV
  refine ⟨(ns.drop (HT.sIx (ns.map V.int).length 0 lo)).take (HT.sIx (ns.map V.int).length (ns.map V.int).length hi - HT.sIx (ns.map V.int).length 0 lo), ?_, ?_⟩
  · rw [List.map_take, List.map_drop]
  · rw [List.length_take, List.length_drop]
    omega
/-- what a comprehension asks once its walked thing is there -/
def LcGo (J : It) (g : TG) (tt : TT) (te : TE) (vs : List Nat) (σ : L2.St) (H1 : Hp) (Q : VK) : Prop := ∀ D, H1 D = none → ∃ W : Nat → Nat → Hp → Prop, (∃ m, W 0 m (upd H1 D (.lst []))) ∧
  ∀ i m H, W i m H → (J.stop i H ∧ Q (.ref D) H) ∨ (J.go i H ∧ ∃ Nx : Hp → Prop, (∀ H', Nx H' → ∃ m', m' < m ∧ W (i + 1) m' H') ∧
    ∀ x H', J.yld i H x H' → g x (wipe σ vs) H' fun σ2 H2 => wipe σ2 vs = wipe σ vs ∧ tt σ2 H2 fun b H3 =>
      if b = true then te σ2 H3 fun y H4 => ∃ acc, H4 D = some (.lst acc) ∧ acc.length < sizeLine ∧ Nx (upd H4 D (.lst (acc ++ [y]))) else Nx H3)
theorem g_lcL (q : tl σ H fun x H1 => ∃ a, x = .ref a ∧ (∃ xs, SqL K H1 a xs) ∧ LcGo (Itl K a) g tt te vs σ H1 Q) : tLc (iList K tl) g tt te vs σ H Q := q
theorem g_lcR (q : tr σ H fun us H1 => ∃ j : Int, us = [.int j] ∧ -(2 ^ 62) ≤ j ∧ j < 2 ^ 62 ∧ LcGo (Itr 0 j.toNat) g tt te vs σ H1 Q) : tLc (iRng1 tr) g tt te vs σ H Q := q
theorem lcgo_list {a : Addr} {xs : List V} {j : Nat} (Pv : Addr → Nat → Hp → Prop) (hw : ∀ x, wipe ((wipe σ vs).set j (some x)) vs = wipe σ vs)
    (h0 : ∀ D, H1 D = none → Pv D 0 (upd H1 D (.lst []))) (hl : ∀ D i H, i ≤ xs.length → Pv D i H → SqL K H a xs)
    (hs : ∀ D i x H, H1 D = none → xs[i]? = some x → Pv D i H → te ((wipe σ vs).set j (some x)) H fun y H4 => ∃ acc, H4 D = some (.lst acc) ∧ acc.length < sizeLine ∧ Pv D (i + 1) (upd H4 D (.lst (acc ++ [y]))))
    (hd : ∀ D H, H1 D = none → Pv D xs.length H → Q (.ref D) H) : LcGo (Itl K a) (gName j) tYes te vs σ H1 Q :=
  fun D hD => lc_list (xs := xs) (Pv D) (h0 D hD) (hl D) (fun i x H e p => ⟨hw x, hs D i x H hD e p⟩) (fun H p => hd D H hD p)
theorem lcgo_range {n j : Nat} (Pv : Addr → Nat → Hp → Prop) (hw : ∀ x, wipe ((wipe σ vs).set j (some x)) vs = wipe σ vs)
    (h0 : ∀ D, H1 D = none → Pv D 0 (upd H1 D (.lst [])))
    (hs : ∀ D i H, H1 D = none → i < n → Pv D i H → te ((wipe σ vs).set j (some (.int (0 + (i : Int))))) H fun y H4 => ∃ acc, H4 D = some (.lst acc) ∧ acc.length < sizeLine ∧ Pv D (i + 1) (upd H4 D (.lst (acc ++ [y]))))
    (hd : ∀ D H, H1 D = none → Pv D n H → Q (.ref D) H) : LcGo (Itr 0 n) (gName j) tYes te vs σ H1 Q :=
  fun D hD => lc_range (lo := 0) (n := n) (Pv D) (h0 D hD) (fun i H e p => ⟨hw _, hs D i H hD e p⟩) (fun H p => hd D H hD p)

/-! ### numbers -/
theorem g_mod {i j : Int} (h : 0 < j) (q : Q (.int (i % j)) H) : rI (fun _ j => 0 < j) (fun i j => .int (i % j)) (.int i) (.int j) H Q := ⟨i, j, rfl, rfl, h, q⟩
theorem g_div {i j : Int} (h : 0 < j) (h2 : j.natAbs.log2 < 9000) (q : Q (.int (i / j)) H) : rI CDivW (fun i j => .int (i / j)) (.int i) (.int j) H Q := ⟨i, j, rfl, rfl, ⟨h, h2⟩, q⟩
theorem g_pow {i j : Int} (h1 : 0 ≤ j) (h2 : j ≤ 1000000) (h : i.natAbs < 2 ^ 64) (q : Q (.int (i ^ j.toNat)) H) : rI CPow (fun i j => .int (i ^ j.toNat)) (.int i) (.int j) H Q := ⟨i, j, rfl, rfl, ⟨h1, h2, h⟩, q⟩
theorem g_mulL {i j : Int} (h1 : -(2 ^ 64) < i) (h2 : i < 2 ^ 64) (q : Q (.int (i * j)) H) : rMulU (.int i) (.int j) H Q := .inl ⟨i, j, rfl, rfl, .inl (.inl ⟨h1, h2⟩), q⟩
theorem g_mulR {i j : Int} (h1 : -(2 ^ 64) < j) (h2 : j < 2 ^ 64) (q : Q (.int (i * j)) H) : rMulU (.int i) (.int j) H Q := .inl ⟨i, j, rfl, rfl, .inl (.inr ⟨h1, h2⟩), q⟩
theorem g_mulW {i j : Int} (h : i.natAbs.log2 + j.natAbs.log2 < 1000000) (q : Q (.int (i * j)) H) : rMulU (.int i) (.int j) H Q := .inl ⟨i, j, rfl, rfl, .inr h, q⟩
theorem g_ltI {i j : Int} (q : Q (.bl (decide (i < j))) H) : rI0 (fun i j => .bl (decide (i < j))) (.int i) (.int j) H Q := ⟨i, j, rfl, rfl, q⟩
theorem g_neNil {c p : Addr} {ns : List Int} (h1 : SqL K H c (ns.map V.int)) (h2 : SqL K H p []) (q : Q (.bl (!ns.isEmpty)) H) : rNeU K (.ref c) (.ref p) H Q := by
  have dall : ∀ l : List Int, DpAll K H (l.map V.int) (l.map PyData.int) := fun l => by
    induction l with
    | nil => exact .nil
    | cons z r ih => exact .cons (.int z) ih
  have lay : ∀ l : List Int, PyData.canLayAll0 (l.map PyData.int) = true := fun l => by
    induction l with
    | nil => rfl
    | cons z r ih =>
      show (true && PyData.canLayAll0 (r.map PyData.int)) = true
      rw [ih]
      rfl
  have dep : ∀ l : List Int, PyData.depthAll (l.map PyData.int) ≤ 1 := fun l => by
    induction l with
    | nil => decide
    | cons z r ih =>
      rw [List.map_cons]
      simp only [PyData.depthAll, PyData.depth]
      omega
  refine .inr ⟨.list (ns.map PyData.int), .list [], .lst h1 (dall ns), .lst h2 .nil, ?_, by decide, ?_⟩
  · unfold SeqAt.shaped
    rw [Bool.and_eq_true]
    refine ⟨lay ns, decide_eq_true ?_⟩
    have := dep ns
    simp only [PyData.depth]
    omega
  · cases ns with
    | nil => exact q
    | cons z r => exact q
theorem g_sub {to ti : TE} {t : TSet} {R : L2.St → Hp → Prop} (q : to σ H fun o H1 => ti σ H1 fun i H2 => t o i v H2 fun H3 => R σ H3) : gSub to ti t v σ H R := q
theorem g_setL {p : Addr} {xs : List V} {k : Int} {j : Nat} {R : Hp → Prop} (h : H p = some (.lst xs)) (e : ixN xs.length k = some j) (q : R (upd H p (.lst (xs.set j v)))) : rSetL (.ref p) (.int k) v H R := ⟨p, xs, k, j, rfl, rfl, h, e, q⟩
theorem stir_bd {s t a b c : Int} (hs0 : 0 ≤ s) (hs : s < 2147483648) (ht0 : 0 ≤ t) (ht : t ≤ 1000000) (ha0 : 0 ≤ a) (ha : a ≤ 100000) (hb0 : 0 ≤ b) (hb : b ≤ 1000000) (hc0 : 0 ≤ c) (hc : c ≤ 1000000) :
    (s * (2 * t + a) + b * t * t + c).natAbs < 2 ^ 64 := by
  have h1 : s * (2 * t + a) ≤ 2147483648 * 2100000 := Int.mul_le_mul (by omega) (by omega) (by omega) (by omega)
  have h2 : 0 ≤ s * (2 * t + a) := Int.mul_nonneg hs0 (by omega)
  have h3 : b * t ≤ 1000000 * 1000000 := Int.mul_le_mul hb ht ht0 (by omega)
  have h4 : 0 ≤ b * t := Int.mul_nonneg hb0 ht0
  have h5 : b * t * t ≤ 1000000000000 * 1000000 := Int.mul_le_mul (by omega) ht ht0 (by omega)
  have h6 : 0 ≤ b * t * t := Int.mul_nonneg h4 ht0
  generalize s * (2 * t + a) = p at *
  generalize b * t * t = r at *
  omega
end

/-! ### what draws -/
/-- q holds the cells, how many were begun, what is left -/
def Qy (K : PySem.W.Frag) (q : Addr) (t : Int) (H : Hp) : Prop := ∃ (c : Addr) (ns : List Int) (r : Int), H q = some (.lst [.ref c, .int t, .int r]) ∧ H c = some (.lst (ns.map V.int)) ∧ c ≠ q ∧ ns.length ≤ 63 ∧ 0 ≤ r ∧ 0 ≤ t
theorem Qy.same {K : PySem.W.Frag} {q : Addr} {t : Int} {H H' : Hp} (s : Same H H') (h : Qy K q t H) : Qy K q t H' := by
  obtain ⟨c, ns, r, h1, h2, h3, h4, h5, h6⟩ := h
  exact ⟨c, ns, r, s _ _ h1, s _ _ h2, h3, h4, h5, h6⟩
theorem Qy.nn {K : PySem.W.Frag} {q : Addr} {t : Int} {H : Hp} (h : Qy K q t H) : 0 ≤ t := by
  obtain ⟨c, ns, r, h1, h2, h3, h4, h5, h6⟩ := h
  exact h6
theorem Qy.at {K : PySem.W.Frag} {q : Addr} {t : Int} {H : Hp} (h : Qy K q t H) : ∃ o, H q = some o := by
  obtain ⟨c, ns, r, h1, _⟩ := h
  exact ⟨_, h1⟩
theorem Qy.ne {K : PySem.W.Frag} {q p : Addr} {t : Int} {H : Hp} (h : Qy K q t H) (e : H p = none) : p ≠ q := by
  obtain ⟨o, h1⟩ := h.at
  exact (ne_of_none h1 e).symm
theorem upd_x {q c : Addr} {H : Hp} {t r t' r' : V} (h : H q = some (.lst [.ref c, t, r])) : SameX q H (upd H q (.lst [.ref c, t', r'])) := by
  refine ⟨fun b z n e => ?_, fun c2 t2 r2 e => ⟨t', r', ?_⟩⟩
  · rw [upd_ne n]
    exact e
  · rw [h] at e
    cases e
    exact upd_same
/-- the cells' address is not d -/
def Qn (q d : Addr) (H : Hp) : Prop := ∀ c t r, H q = some (.lst [.ref c, t, r]) → c ≠ d
theorem Qn.go {K : PySem.W.Frag} {q d : Addr} {t : Int} {H H' : Hp} (h : Qn q d H) (hq : Qy K q t H) (s : SameX q H H') : Qn q d H' := by
  obtain ⟨c, ns, r, h1, _⟩ := hq
  obtain ⟨t2, r2, e2⟩ := s.cell c _ _ h1
  intro c' t' r' e'
  rw [e2] at e'
  cases e'
  exact h c _ _ h1
theorem Qn.new {K : PySem.W.Frag} {q d : Addr} {t : Int} {H : Hp} (hq : Qy K q t H) (e : H d = none) : Qn q d H := by
  obtain ⟨c, ns, r, h1, h2, _⟩ := hq
  intro c' t' r' e'
  rw [h1] at e'
  cases e'
  exact ne_of_none h2 e
theorem Qy.upd {K : PySem.W.Frag} {q d : Addr} {t : Int} {H : Hp} {o : HO} (hq : Qy K q t H) (hn : Qn q d H) (n : d ≠ q) : Qy K q t (upd H d o) := by
  obtain ⟨c, ns, r, h1, h2, h3, h4, h5, h6⟩ := hq
  refine ⟨c, ns, r, ?_, ?_, h3, h4, h5, h6⟩
  · rw [upd_ne n.symm]
    exact h1
  · rw [upd_ne (hn c _ _ h1)]
    exact h2
theorem Qn.upd {K : PySem.W.Frag} {q d : Addr} {t : Int} {H : Hp} {o : HO} (hq : Qy K q t H) (hn : Qn q d H) (n : d ≠ q) : Qn q d (L2.upd H d o) := by
  intro c' t' r' e'
  rw [upd_ne n.symm] at e'
  exact hn c' t' r' e'
def sp_quay (K : PySem.W.Frag) : Sp := fun vs H Q _ => ∃ (a : Addr) (ns : List Int), vs = [.ref a] ∧ SqL K H a (ns.map V.int) ∧ ns.length ≤ 63 ∧ ∀ q H', Same H H' → H q = none → Qy K q 0 H' → Q (.ref q) H'
def sp_moor (K : PySem.W.Frag) : Sp := fun vs H Q _ => ∃ (q : Addr) (t n : Int), vs = [.ref q, .int n] ∧ Qy K q t H ∧ t ≤ 1000000 ∧ 0 < n ∧ n.natAbs.log2 < 9000 ∧
  ∀ t' H' i, SameX q H H' → Qy K q t' H' → t ≤ t' → t' ≤ t + 1 → 0 ≤ i → i < n → Q (.int i) H'
def sp_pick (K : PySem.W.Frag) : Sp := fun vs H Q _ => ∃ (q a : Addr) (t : Int) (xs : List V), vs = [.ref q, .ref a] ∧ Qy K q t H ∧ t ≤ 1000000 ∧ a ≠ q ∧ Sq K H a xs ∧ xs ≠ [] ∧ xs.length ≤ 1000 ∧
  ∀ t' H' x, SameX q H H' → Qy K q t' H' → t ≤ t' → t' ≤ t + 1 → x ∈ xs → Q x H'
end Mf
namespace Mf
open PySem PySem.Spec PyProof.Rows L2
/-! ### what a menu's items come to -/
def EvD (q : Addr) (K : PySem.W.Frag) (te : TE) (σ : L2.St) (H : Hp) (d : PyData) : Prop := ∀ H1, Same H H1 → ∀ Q : VK, (∀ v H2, Same H1 H2 → Dq q K H2 v d → Q v H2) → te σ H1 Q
def EvDs (q : Addr) (K : PySem.W.Frag) (ta : TA) (σ : L2.St) (H : Hp) (ds : List PyData) : Prop := ∀ H1, Same H H1 → ∀ Q : List V → Hp → Prop, (∀ vs H2, Same H1 H2 → DqAll q K H2 vs ds → Q vs H2) → ta σ H1 Q
section
variable {q : Addr} {K : PySem.W.Frag} {σ : L2.St} {H : Hp} {te tb : TE} {ta : TA} {d : PyData} {ds : List PyData}
theorem ed_var {i : Nat} {v : V} (e : σ[i]? = some (some v)) (h : Dq q K H v d) : EvD q K (tVar i) σ H d := fun H1 s Q k => ⟨v, e, k v H1 (Same.refl _) (h.go (Same.x s))⟩
theorem ed_int {i : Int} : EvD q K (tC (.int i)) σ H (.int i) := fun H1 _ Q k => k _ H1 (Same.refl _) (.int i)
theorem ed_bl {b : Bool} : EvD q K (tC (.bl b)) σ H (.bool b) := fun H1 _ Q k => k _ H1 (Same.refl _) (.bl b)
theorem ed_non : EvD q K (tC .non) σ H .none := fun H1 _ Q k => k _ H1 (Same.refl _) .non
theorem ed_str {x : Str} (h : x.length ≤ 1000) : EvD q K (tC (.str x)) σ H (.str x) := fun H1 _ Q k => k _ H1 (Same.refl _) (.str x h)
theorem ed_neg {i : Int} (h : EvD q K te σ H (.int i)) : EvD q K (tUn (rU fun i => .int (-i)) te) σ H (.int (-i)) := fun H1 s Q k => h H1 s _ fun v H2 s2 hd => by
  cases hd
  exact ⟨i, rfl, k _ H2 s2 (.int _)⟩
theorem ed_pow {i j : Int} (h1 : EvD q K te σ H (.int i)) (h2 : EvD q K tb σ H (.int j)) (c : CPow i j) : EvD q K (tOp (rI CPow fun i j => .int (i ^ j.toNat)) te tb) σ H (.int (i ^ j.toNat)) := fun H1 s Q k => h1 H1 s _ fun v H2 s2 hd => by
  cases hd
  exact h2 H2 (s.trans s2) _ fun v H3 s3 hd => by
    cases hd
    exact ⟨i, j, rfl, rfl, c, k _ H3 (s2.trans s3) (.int _)⟩
theorem ed_mul {i j : Int} (h1 : EvD q K te σ H (.int i)) (h2 : EvD q K tb σ H (.int j)) (c : CMulU i j) : EvD q K (tOp rMulU te tb) σ H (.int (i * j)) := fun H1 s Q k => h1 H1 s _ fun v H2 s2 hd => by
  cases hd
  exact h2 H2 (s.trans s2) _ fun v H3 s3 hd => by
    cases hd
    exact .inl ⟨i, j, rfl, rfl, c, k _ H3 (s2.trans s3) (.int _)⟩
theorem eds_nil : EvDs q K tNil σ H [] := fun H1 _ Q k => k [] H1 (Same.refl _) .nil
theorem eds_cons (h : EvD q K te σ H d) (t : EvDs q K ta σ H ds) : EvDs q K (tCons te ta) σ H (d :: ds) := fun H1 s Q k => h H1 s _ fun v H2 s2 hd => t H2 (s.trans s2) _ fun vs H3 s3 hds =>
  k (v :: vs) H3 (s2.trans s3) (.cons (hd.go (Same.x s3)) hds)
theorem ed_tup {o : HO} (hq : H q = some o) (h : EvDs q K ta σ H ds) (hl : ds.length ≤ 1000) : EvD q K (tTup ta) σ H (.tuple ds) := fun H1 s Q k => h H1 s _ fun vs H2 s2 hds =>
  ⟨by rw [hds.len]; exact Nat.le_of_lt (small1000 hl), fun p hp => k _ _ (s2.trans (same_new hp)) (.tup (ne_of_none ((s.trans s2) _ _ hq) hp).symm (tupU upd_same) (hds.go (Same.x (same_new hp))))⟩
theorem ed_lst {o : HO} (hq : H q = some o) (h : EvDs q K ta σ H ds) (hl : ds.length ≤ 1000) : EvD q K (tLst ta) σ H (.list ds) := fun H1 s Q k => h H1 s _ fun vs H2 s2 hds =>
  ⟨by rw [hds.len]; exact Nat.le_of_lt (small1000 hl), fun p hp => k _ _ (s2.trans (same_new hp)) (.lst (ne_of_none ((s.trans s2) _ _ hq) hp).symm (seqU upd_same) (hds.go (Same.x (same_new hp))))⟩
theorem ed_dict0 {o : HO} (hq : H q = some o) : EvD q K tDNewK σ H (.dict []) := fun H1 s Q k p hp => k _ _ (same_new hp) (.dct (ne_of_none (s _ _ hq) hp).symm upd_same)
theorem ed_dict2 {o : HO} (hq : H q = some o) {a b c d : Int} : EvD q K (tDisp [(tC (.int a), tC (.int b)), (tC (.int c), tC (.int d))]) σ H (.dict []) := fun H1 s Q k p hp =>
  ⟨upd_same, [(.inl a, .int b), (.inl c, .int d)], rfl, by show 2 ≤ 15; decide, by
    rw [upd_upd]
    exact k _ _ (same_new hp) (.dct (ne_of_none (s _ _ hq) hp).symm upd_same)⟩
/-- .. and used -/
theorem EvDs.run {Q : List V → Hp → Prop} (h : EvDs q K ta σ H ds) (k : ∀ vs H2, Same H H2 → DqAll q K H2 vs ds → Q vs H2) : ta σ H Q := h H (Same.refl _) Q k
theorem EvD.run {Q : VK} (h : EvD q K te σ H d) (k : ∀ v H2, Same H H2 → Dq q K H2 v d → Q v H2) : te σ H Q := h H (Same.refl _) Q k
theorem DqAll.mem : ∀ {vs : List V} {ds : List PyData} {x : V}, DqAll q K H vs ds → x ∈ vs → ∃ d ∈ ds, Dq q K H x d
  | _, _, _, .nil, h => absurd h List.not_mem_nil
  | _, _, _, .cons h t, hx => by
    rcases List.mem_cons.mp hx with rfl | hx
    · exact ⟨_, List.mem_cons_self, h⟩
    · obtain ⟨d, m, e⟩ := DqAll.mem t hx
      exact ⟨d, List.mem_cons_of_mem _ m, e⟩
theorem DqAll.app : ∀ {vs ws : List V} {ds es : List PyData}, DqAll q K H vs ds → DqAll q K H ws es → DqAll q K H (vs ++ ws) (ds ++ es)
  | _, _, _, _, .nil, h => h
  | _, _, _, _, .cons h t, h2 => .cons h (DqAll.app t h2)
/-- data that can be compared and shown -/
def okD (d : PyData) : Bool := noDct d && (d.canLay0 && decide (d.depth ≤ 60))
def okV (d : PyData) : Bool := match d with | .dict _ => true | d => okD d
def okO (d : PyData) : Bool := match d with | .list [a, b] | .tuple [a, b] => okD a && okD b | _ => true
end
theorem noDct_parts : ∀ {ds : List PyData}, noDct.all ds = true → ∀ d ∈ ds, noDct d = true
  | [], _, d, hd => absurd hd List.not_mem_nil
  | x :: r, h, d, hd => by
    unfold noDct.all at h
    rw [Bool.and_eq_true] at h
    rcases List.mem_cons.mp hd with rfl | hd
    · exact h.1
    · exact noDct_parts h.2 d hd
theorem lay_parts : ∀ {ds : List PyData}, PyData.canLayAll0 ds = true → PyData.depthAll ds ≤ 60 → ∀ d ∈ ds, d.canLay0 = true ∧ d.depth ≤ 60
  | [], _, _, d, hd => absurd hd List.not_mem_nil
  | x :: r, h, e, d, hd => by
    have h' : (x.canLay0 && PyData.canLayAll0 r) = true := h
    rw [Bool.and_eq_true] at h'
    simp only [PyData.depthAll] at e
    rcases List.mem_cons.mp hd with rfl | hd
    · exact ⟨h'.1, by omega⟩
    · exact lay_parts h'.2 (by omega) d hd
theorem okD_parts {d : PyData} {ds : List PyData} (e : d = .list ds ∨ d = .tuple ds) (h : okD d = true) : ∀ x ∈ ds, okD x = true := by
  unfold okD at h
  rw [Bool.and_eq_true, Bool.and_eq_true] at h
  obtain ⟨h1, h2, h3⟩ := h
  have h3 := of_decide_eq_true h3
  intro x hx
  have key : noDct.all ds = true ∧ PyData.canLayAll0 ds = true ∧ PyData.depthAll ds ≤ 60 := by
    rcases e with rfl | rfl
    all_goals
      unfold noDct at h1
      simp only [PyData.depth] at h3
      exact ⟨h1, h2, by omega⟩
  obtain ⟨k1, k2, k3⟩ := key
  have := lay_parts k2 k3 x hx
  unfold okD
  rw [Bool.and_eq_true, Bool.and_eq_true]
  exact ⟨noDct_parts k1 x hx, this.1, decide_eq_true this.2⟩
theorem okO_of {d : PyData} (h : okV d = true) : okO d = true := by
  unfold okO
  split
  · rename_i a b
    rw [Bool.and_eq_true]
    exact ⟨okD_parts (.inl rfl) h a (List.mem_cons_self), okD_parts (.inl rfl) h b (List.mem_cons_of_mem _ List.mem_cons_self)⟩
  · rename_i a b
    rw [Bool.and_eq_true]
    exact ⟨okD_parts (.inr rfl) h a (List.mem_cons_self), okD_parts (.inr rfl) h b (List.mem_cons_of_mem _ List.mem_cons_self)⟩
  · rfl
section
variable {q : Addr} {K : PySem.W.Frag} {H : Hp} {Q : VK} {σ : L2.St} {te : TE}
theorem okD_all : ∀ {ds : List PyData}, (∀ d ∈ ds, okD d = true) → noDct.all ds = true ∧ PyData.canLayAll0 ds = true ∧ PyData.depthAll ds ≤ 60
  | [], _ => ⟨rfl, rfl, by decide⟩
  | d :: ds, h => by
    have h1 := h d List.mem_cons_self
    obtain ⟨i1, i2, i3⟩ := okD_all fun e he => h e (List.mem_cons_of_mem _ he)
    unfold okD at h1
    rw [Bool.and_eq_true, Bool.and_eq_true] at h1
    obtain ⟨k1, k2, k3⟩ := h1
    have k3 := of_decide_eq_true k3
    refine ⟨?_, ?_, ?_⟩
    · unfold noDct.all
      rw [k1, i1]
      rfl
    · show (d.canLay0 && PyData.canLayAll0 ds) = true
      rw [k2, i2]
      rfl
    · simp only [PyData.depthAll]
      omega
/-- a list of such == [] -/
theorem g_eqNilD {c p : Addr} {vs : List V} {ds : List PyData} (h1 : SqL K H c vs) (hall : DqAll q K H vs ds) (hok : ∀ d ∈ ds, okD d = true) (h2 : SqL K H p []) (k : Q (.bl vs.isEmpty) H) : rEqU K (.ref c) (.ref p) H Q := by
  obtain ⟨i1, i2, i3⟩ := okD_all hok
  refine .inr ⟨.list ds, .list [], .lst h1 (hall.dp i1), .lst h2 .nil, ?_, by decide, ?_⟩
  · unfold SeqAt.shaped
    rw [Bool.and_eq_true]
    refine ⟨i2, decide_eq_true ?_⟩
    simp only [PyData.depth]
    omega
  · cases hall with
    | nil => exact k
    | cons _ _ => exact k
/-- what is reckoned apart -/
theorem cut_te {v : V} (h1 : ∀ Q : VK, Q v H → te σ H Q) (h2 : Q v H) : te σ H Q := h1 Q h2
theorem cut_teS {v : V} (h1 : ∀ Q : VK, (∀ H', Same H H' → Q v H') → te σ H Q) (h2 : ∀ H', Same H H' → Q v H') : te σ H Q := h1 Q h2
theorem bb_len : ∀ b c : Bool, (PyData.list [.bool b, .bool c]).shown.length ≤ sizeLine := by decide +kernel
theorem b_len : ∀ b : Bool, (PyData.bool b).shown.length ≤ sizeLine := by decide +kernel
theorem g_reprBB {p : Addr} {b c : Bool} (e : H p = some (.lst [.bl b, .bl c])) (k : Q (.str (PyData.list [.bool b, .bool c]).shown) H) : rReprU K [.ref p] H Q :=
  g_repr (.lst (seqU e) (.cons (.bl b) (.cons (.bl c) .nil))) rfl rfl (Nat.le_of_ble_eq_true rfl) (bb_len b c) k
theorem g_reprB {b : Bool} (k : Q (.str (PyData.bool b).shown) H) : rReprU K [.bl b] H Q := g_repr (.bl b) rfl rfl (Nat.le_of_ble_eq_true rfl) (b_len b) k
theorem g_neSs {x : Str} (k : Q (.bl false) H) : rNeU K (.str x) (.str x) H Q := g_neS (by rw [decide_eq_true rfl]; exact k)
theorem g_par {i j : Nat} {ta : TA} {D : Ends} (k : ta σ H fun vs H1 => ∃ u v, vs = [u, v] ∧ D.nx ((σ.set i (some u)).set j (some v)) H1) : tPar i j ta D σ H := k
theorem g_par3 {i j l : Nat} {ta : TA} {D : Ends} (k : ta σ H fun vs H1 => ∃ u v w, vs = [u, v, w] ∧ D.nx (((σ.set i (some u)).set j (some v)).set l (some w)) H1) : tPar3 i j l ta D σ H := k
theorem g_vv {x y : V} {P : V → V → Prop} (k : P x y) : ∃ u v, [x, y] = [u, v] ∧ P u v := ⟨x, y, rfl, k⟩
theorem g_vvv {x y z : V} {P : V → V → V → Prop} (k : P x y z) : ∃ u v w, [x, y, z] = [u, v, w] ∧ P u v w := ⟨x, y, z, rfl, k⟩
/-- a for over range(n) -/
theorem g_for1 {n : Int} {j : Nat} {tb : TS} {D : Ends} (hn : 0 ≤ n ∧ n ≤ 1000) (Pv : Nat → L2.St → Hp → Prop) (h0 : Pv 0 σ H)
    (hs : ∀ i σ H, i < n.toNat → Pv i σ H → tb ⟨Pv (i + 1), D.rt, D.nx, Pv (i + 1)⟩ (σ.set j (some (.int (0 + (i : Int))))) H) (hd : ∀ σ H, Pv n.toNat σ H → D.nx σ H) :
    tFor (iRng1 (tCons (tC (.int n)) tNil)) (gName j) tb D σ H :=
  ⟨n, rfl, by omega, by omega, for_range (lo := 0) (n := n.toNat) Pv h0 (fun i σ H hi p => hs i σ H hi p) hd⟩
theorem mem_bd {x : V} {ls : List (Option Int)} (h : x ∈ ls.map bdV) : ∃ l, x = bdV l := by
  obtain ⟨l, _, e⟩ := List.mem_map.mp h
  exact ⟨l, e.symm⟩
end
section
variable {K : PySem.W.Frag} {σ : L2.St} {H H1 : Hp} {Q : VK} {te : TE} {tt : TT} {vs : List Nat}
theorem g_lcO1 {g : TG} {tl : TE} (q : tl σ H fun x H1 => ∃ a, x = .ref a ∧ (∃ xs, SqL K H1 a xs) ∧ LcGo (Itl K a) g tt te vs σ H1 Q) : tLc (fun σ H R => iList K tl σ H R ∨ iTup K tl σ H R) g tt te vs σ H Q := .inl q
theorem g_lcO2 {g : TG} {tl : TE} (q : tl σ H fun x H1 => ∃ a, x = .ref a ∧ (∃ xs, SqT K H1 a xs) ∧ LcGo (Itt K a) g tt te vs σ H1 Q) : tLc (fun σ H R => iList K tl σ H R ∨ iTup K tl σ H R) g tt te vs σ H Q := .inr q
/-- .. with a test -/
theorem lcgo_listF {a : Addr} {xs : List V} {j : Nat} (Pv : Addr → Nat → Hp → Prop) (hw : ∀ x, wipe ((wipe σ vs).set j (some x)) vs = wipe σ vs)
    (h0 : ∀ D, H1 D = none → Pv D 0 (upd H1 D (.lst []))) (hl : ∀ D i H, i ≤ xs.length → Pv D i H → SqL K H a xs)
    (hs : ∀ D i x H, H1 D = none → xs[i]? = some x → Pv D i H → tt ((wipe σ vs).set j (some x)) H fun b H3 => if b = true then te ((wipe σ vs).set j (some x)) H3 fun y H4 => ∃ acc, H4 D = some (.lst acc) ∧ acc.length < sizeLine ∧ Pv D (i + 1) (upd H4 D (.lst (acc ++ [y]))) else Pv D (i + 1) H3)
    (hd : ∀ D H, H1 D = none → Pv D xs.length H → Q (.ref D) H) : LcGo (Itl K a) (gName j) tt te vs σ H1 Q :=
  fun D hD => lc_list (xs := xs) (Pv D) (h0 D hD) (hl D) (fun i x H e p => ⟨hw x, hs D i x H hD e p⟩) (fun H p => hd D H hD p)
theorem lcgo_tupF {a : Addr} {xs : List V} {j : Nat} (Pv : Addr → Nat → Hp → Prop) (hw : ∀ x, wipe ((wipe σ vs).set j (some x)) vs = wipe σ vs)
    (h0 : ∀ D, H1 D = none → Pv D 0 (upd H1 D (.lst []))) (hl : ∀ D i H, i ≤ xs.length → Pv D i H → SqT K H a xs)
    (hs : ∀ D i x H, H1 D = none → xs[i]? = some x → Pv D i H → tt ((wipe σ vs).set j (some x)) H fun b H3 => if b = true then te ((wipe σ vs).set j (some x)) H3 fun y H4 => ∃ acc, H4 D = some (.lst acc) ∧ acc.length < sizeLine ∧ Pv D (i + 1) (upd H4 D (.lst (acc ++ [y]))) else Pv D (i + 1) H3)
    (hd : ∀ D H, H1 D = none → Pv D xs.length H → Q (.ref D) H) : LcGo (Itt K a) (gName j) tt te vs σ H1 Q :=
  fun D hD => lc_tup (xs := xs) (Pv D) (h0 D hD) (hl D) (fun i x H e p => ⟨hw x, hs D i x H hD e p⟩) (fun H p => hd D H hD p)
end
end Mf
/-! own errors as values: made by place and by name, a field read, isinstance -/
namespace Mf
open PySem PySem.Spec PySem.Calls PyProof.Rows
section
open PySem.W
variable {prog : Program} {w : World} {A : Around} {E : Value → Shared → Prop} {s : Shared} {K : Frag} {x D : Addr} {ox : Obj} {od : Option Obj}
theorem findObj_dataO {C : Addr} {name : Str} {a g : Value} (hc : (clsIn K C).isSome = true) (ha : findIn K (.ref C) name = some (some a)) (hg : specialIn K a "__get__" = some (some g)) (ht : takesIn K a = some true) : findObj K C od name = some (.bind g a) := by
  obtain ⟨cd, hc⟩ := Option.isSome_iff_exists.mp hc
  unfold findObj
  rw [hc, Option.bind_some, ha, Option.bind_some]
  simp [hg, ht]
theorem kin_classO {Q : Option Value → Shared → Prop} (hga : findIn K (.ref D) "__getattribute__" = some (some (.builtin "BaseException.__getattribute__"))) (hgt : findIn K (.ref D) "__getattr__" = some none) (hsub : subIn K (.ref D) (.type "BaseException") = some true)
    (hdct : hasDictIn K D = true) (ha : findIn K (.ref D) "__class__" = some (some (.builtin "object.__class__")))
    (hn : specialIn K (.builtin "object.__class__") "__get__" = some (some (.builtin "getset_descriptor.__get__"))) (htk : takesIn K (.builtin "object.__class__") = some true) (hm : mroIn K D (.type "object") = some true)
    (X : K.In s.heap) (I : InstAt s.heap x ox D od) (h : Q (some (.ref D)) { s with toks := s.toks + 1 }) : wpAny (model prog w) A (getAttr? (.ref x) "__class__") Q E s := by
  have hf : findObj K D od "__class__" = some (.bind (.builtin "getset_descriptor.__get__") (.builtin "object.__class__")) := findObj_dataO (by obtain ⟨cd, hc, _⟩ := any_some hdct; rw [hc]; rfl) ha hn htk
  obtain ⟨hp, g, d, t, os⟩ := s
  have L0 := I.type (M := model prog w)
  have L1 := looks_findIn (M := model prog w) X hga
  have L2 := looks_findIn (M := model prog w) X hgt
  have L3 := looks_find (M := model prog w) X I hf
  have sub : Looks (model prog w) hp (isInstance (.ref x) (.type "BaseException")) true := L0.andThen (looks_subIn X hsub)
  have hx0 : (false && onTheHeap (Value.builtin "BaseException.__getattribute__")) = false := rfl
  have hx2 : (Value.builtin "BaseException.__getattribute__" == Value.builtin "object.__getattribute__") = false := by decide +kernel
  have hx1 : (onTheHeap (Value.ref D) && Value.builtin "BaseException.__getattribute__" == Value.builtin "object.__getattribute__") = false := by rw [hx2]; rfl
  unfold getAttr? getAttrBy? getAttrBy
  refine wpAny_bind (wpAny_mkText (wpAny_bind (wpAny_attempt (wpAny_holding (wpAny_bind (L0.at (wpAny_bind (L1.at ?_))))))))
  show wpAny _ _ (if (onTheHeap (Value.ref D) && Value.builtin "BaseException.__getattribute__" == Value.builtin "object.__getattribute__") = true then _ else _) _ _ _
  rw [hx1, if_neg Bool.false_ne_true]
  unfold getAttrByItsOwn hookBefore
  refine wpAny_bind ?_
  rw [if_pos (show onTheHeap (Value.ref D) = true from rfl)]
  refine L2.at ?_
  refine wpAny_bind (wpAny_attempt (wpAny_holding ?_))
  unfold callGetattribute
  rw [hx0, if_neg Bool.false_ne_true]
  unfold boundAndCalled
  rw [PySem.F.excAttr_ValueError.ga.bind (.ref x)]
  refine wpAny_bind (wpAny_pure ?_)
  show wpAny _ _ (call (.builtin "BaseException.__getattribute__") [.ref x, .str "__class__" t]) _ _ _
  refine wpAny_call (codeAny_call_builtin PySem.F.excAttr_ValueError.ga.plain PySem.F.entry_bexc_ga ?_)
  refine @check_slot (model prog w) _ _ ⟨hp, g, d, t + 1, os⟩ "BaseException.__getattribute__" "BaseException" "__getattribute__" (.ref x) [.str "__class__" t] [] _ (by decide +kernel) (by decide +kernel) sub (PySem.F.args_bexc_ga (.ref x) (.str "__class__" t)) ?_
  unfold Builtin.«object.__getattribute__»
  refine wpAny_bind (wpAny_of_eq (a := ((Value.ref x : Value), [Value.str "__class__" t])) (by first | rfl | (simp only [slotArgs]; rfl)) ?_)
  refine wpAny_bind (wpAny_pure (wpAny_bind (L0.at (wpAny_bind (L3.at ?_)))))
  show wpAny _ _ (holding [Value.builtin "object.__class__"] (call (.builtin "getset_descriptor.__get__") [.builtin "object.__class__", .ref x, .ref D]) >>= ret) _ _ _
  refine wpAny_bind (wpAny_holding (wpAny_call (class_get (s := ⟨hp, g, d, t + 1, os⟩) (ox := ox) (od := od) X I hm ?_)))
  refine wpAny_pure ?_
  show wpAny _ _ (handedOut (.ref D)) _ _ _
  rw [handedOut_of (v := .ref D) rfl]
  first
    | exact wpAny_pure (wpAny_pure h)
    | exact wpAny_pure h
    | exact wpAny_pure (wpAny_bind (wpAny_pure (wpAny_pure h)))
theorem kitx_excO (hga : findIn K (.ref D) "__getattribute__" = some (some (.builtin "BaseException.__getattribute__"))) (hgt : findIn K (.ref D) "__getattr__" = some none) (hsub : subIn K (.ref D) (.type "BaseException") = some true) (hdct : hasDictIn K D = true) (ha : findIn K (.ref D) "__class__" = some (some (.builtin "object.__class__")))
    (hn : specialIn K (.builtin "object.__class__") "__get__" = some (some (.builtin "getset_descriptor.__get__"))) (htk : takesIn K (.builtin "object.__class__") = some true) (hm : mroIn K D (.type "object") = some true) :
    KitX K (.ref x) (.ref D) (fun h => InstAt h x ox D od) where
  ty := fun _ _ _ I => I.type
  it := fun _ _ X _ => by
    obtain ⟨cdD, hcD, _⟩ := any_some hdct
    unfold clsIn at hcD
    split at hcD
    · rename_i c' d' cd' sl' ho
      intro A' Q' E' s' k q
      unfold isType loadHead
      exact wpAny_bind (wpAny_loadPart (k _ _ (X _ _ ho)) (wpAny_pure q))
    · cases hcD
  ne := fun h tp dd its n sl X htp => by
    obtain ⟨cdD, hcD, _⟩ := any_some hdct
    refine Bool.eq_false_iff.mpr fun q => ?_
    have e : D = tp := Value.ref.inj (beq_iff_eq.mp q)
    subst e
    unfold clsIn at hcD
    split at hcD
    · rename_i c' d' cd' sl' ho
      have z := (X _ _ ho).symm.trans htp
      cases z
    · cases hcD
  ca := fun X I k => kin_classO hga hgt hsub hdct ha hn htk hm X I k
end
open L2
/-- what the written part says of an own error's class -/
structure Erc (K : PySem.W.Frag) (C : Addr) : Prop where
  o : OexC K C
  c : ExcC K C
/-- an error that was made: its fields -/
def Er (H : Hp) (a C : Addr) (fs : List (Str × V)) : Prop := ∃ d, d ≠ a ∧ H a = some (exo a C (some d)) ∧ H d = some (exd d fs)
section
variable {X : Cx} {pins : List (Addr × Obj)} {σ : L2.St} {H : Hp} {s : Shared} {a C : Addr} {fs : List (Str × V)}
theorem Er.inst {P : Program} {w : World} {h : Heap} (e : Er H a C fs) (hok : HOk P w H h) : ∃ (oe od : Obj) (mA : Str → Option Value), PySem.W.InstAt h a oe C (some od) ∧ (∀ y, PySem.W.lookIn y od = some (mA y)) ∧ ∀ f, RelO (fs.lookup f) (mA f) := by
  obtain ⟨d, _, ea, ed⟩ := e
  obtain ⟨t1, ho⟩ := exo_at hok ea
  obtain ⟨mA, hns, rel⟩ := exd_at hok ed
  obtain ⟨od, hod, hl⟩ := lookIn_ns hns
  exact ⟨_, od, mA, ⟨ho, rfl, rfl, hod⟩, hl, rel⟩
/-- isinstance(e, T) -/
def rIsX (K : PySem.W.Frag) : List V → Hp → VK → Prop := fun xs H Q => ∃ (a C : Addr) (fs : List (Str × V)) (c : V) (u : Value) (b : Bool), xs = [.ref a, c] ∧ ClsV c u ∧ Erc K C ∧ Er H a C fs ∧ PySem.W.kitOne K (.ref C) u = some b ∧ Q (.bl b) H
/-- isinstance(e, (T, ..)) -/
def rIsXT (K : PySem.W.Frag) : List V → Hp → VK → Prop := fun xs H Q => ∃ (a C : Addr) (fs : List (Str × V)) (tp : Addr) (cs : List V) (us : List Value) (b : Bool), xs = [.ref a, .ref tp] ∧ H tp = some (.tup cs) ∧ Paired ClsV cs us ∧ Erc K C ∧ Er H a C fs ∧ PySem.W.kitAny K (.ref C) us = some b ∧ Q (.bl b) H
theorem call_isX : CallR X (.builtin "isinstance") (rIsX X.K) := by
  intro pins s σ H xs us Q I r h
  obtain ⟨a, C, fs, c, u, b, rfl, k, T, e, z, q⟩ := h
  obtain ⟨u1, u2, rfl, r1, r2⟩ := vals2 r
  have e2 := k.eq r2
  subst e2
  obtain rfl : u1 = Value.ref a := r1
  obtain ⟨oe, od, mA, J, _⟩ := e.inst I.hok
  exact PySem.W.kia_one (kitx_excO T.c.hg T.c.hk T.c.hs T.c.hd T.c.ha T.c.hn T.c.ht T.c.hm) I.kIn J z (fun z => nomatch z) fun tk => ⟨.bl b, H, I.tok tk, rfl, q⟩
/-- e.f -/
def tXat (K : PySem.W.Frag) (f : Str) (te : TE) : TE := fun σ H Q => te σ H fun x H1 => ∃ (a C : Addr) (fs : List (Str × V)) (v : V), x = .ref a ∧ Erc K C ∧ PySem.W.findIn K (.ref C) f = some none ∧ Er H1 a C fs ∧ fs.lookup f = some v ∧ Q v H1
theorem pe_xat {e : Expr} {f : Str} {te : TE} {pos : Pos} (he : PE X e te) (hb : attributeBase e f X.env (eval e X.env) = eval e X.env := by rfl) : PE X (.Attribute e f pos) (tXat X.K f te) := by
  refine ⟨fun pins s σ H Q I h => ?_⟩
  refine attr_of hb (thn (he.run pins s σ H _ I h) fun u s1 hh => ?_)
  obtain ⟨x, H1, I1, rx, a, C, fs, v, ex, T, hno, e1, l, q⟩ := hh
  subst ex
  obtain rfl : u = Value.ref a := rx
  obtain ⟨oe, od, mA, J, hl, hr⟩ := e1.inst I1.hok
  obtain ⟨u, hu, ru⟩ := RelO.some_of (v := v) (o := mA f) (by rw [← l]; exact hr f)
  exact HandSPX.exc_get I1.kIn J T.c.hg T.c.hk T.c.hs (PySem.W.findObj_own T.c.hd hno rfl (by rw [hl, hu])) (handed_of ru) ⟨v, H1, I1.tok _, ru, q⟩
end
section
variable {X : Cx}
theorem call_isXT : CallR X (.builtin "isinstance") (rIsXT X.K) := by
  intro pins s σ H xs us Q I r h
  obtain ⟨a, C, fs, tp, cs, ws, b, rfl, hT, k, T, e, z, q⟩ := h
  obtain ⟨u1, u2, rfl, r1, r2⟩ := vals2 r
  cases (show u2 = Value.ref tp from r2)
  obtain rfl : u1 = Value.ref a := r1
  obtain ⟨oe, od, mA, J, _⟩ := e.inst I.hok
  obtain ⟨_, its, rv, o, h1, h2, n, h3⟩ := (show ObjOk X.prog X.w H s.heap tp (.tup cs) from I.hok tp _ hT)
  have e3 := ClsV.all k rv
  subst e3
  obtain ⟨oc, od, dt, sl⟩ := o
  simp only at h2 h3
  subst h2 h3
  exact PySem.W.kia_tup (kitx_excO T.c.hg T.c.hk T.c.hs T.c.hd T.c.ha T.c.hn T.c.ht T.c.hm) I.kIn J h1 z (fun z => nomatch z) fun tk => ⟨.bl b, H, I.tok tk, rfl, q⟩
/-- isinstance of an own error, or of any other value -/
def rIsY (K : PySem.W.Frag) : List V → Hp → VK → Prop := fun xs H Q => rIsi K xs H Q ∨ rIsX K xs H Q ∨ rIsXT K xs H Q
theorem call_isY : CallR X (.builtin "isinstance") (rIsY X.K) := by
  intro pins s σ H xs us Q I r h
  rcases h with h | h | h
  · exact call_isi pins s σ H xs us Q I r h
  · exact call_isX pins s σ H xs us Q I r h
  · exact call_isXT pins s σ H xs us Q I r h
/-- C(e, ..), an own error that is kept -/
def tMkE (C : Addr) (sp : Sp) (t : TA) : TE := fun σ H Q => t σ H fun vs H1 => vs.length ≤ 1000 ∧ ∀ a, H1 a = none → sp (.ref a :: vs) (upd H1 a (exo a C none)) (fun v H2 => v = .non ∧ Q (.ref a) H2) E0
theorem pe_mkE {x : Str} {e : Expr} {es : List Expr} {t : TA} {p pos : Pos} {C fI : Addr} {k j : Nat} {fd : FuncData} {ps : List Str} {sp : Sp} (T : OexC X.K C) (iC : PySem.W.findIn X.K (.ref C) "__init__" = some (some (.ref fI))) (tI : PySem.W.typeIn X.K (.ref fI) = some (.type "function"))
    (F1 : FnG X.prog X.w X.K X.mg X.base CX0 k fI fd ps sp) (hA : X.A.guards = some []) (hr : Room j X.A) (hk : k + 1 ≤ j) (hb : Binds X.K fd ps []) (hg : Gl X x) (hm : X.mg x = some (.ref C)) (ha : PA X (e :: es) t)
    (hdb : (x == ("__debug__" : Str)) = false := by decide) (he : starEach (e :: es) X.env = (false, eval e X.env) :: starEach es X.env := by rfl) (hpl : (backTo pos (starEach es X.env)).any (·.1) = false := by rfl) :
    PE X (.Call (.Name x p) (e :: es) [] pos) (tMkE C sp t) := by
  refine ⟨fun pins s σ H Q I h => ?_⟩
  obtain ⟨nm, q, N, bs, bm, sn, sub, ab, col, dd, k0, k1, k2, k3, k5, hC, hbm⟩ := T.cls
  refine wpAny_Call_Name_kw (ld_glob I hg hm ?_ hdb)
  refine PySem.W.callWith_K (h₀ := X.base) I.ok.mod.kin T.kC (thn (ha.run pos pins s σ H _ I h) fun us s1 ⟨vs, H1, I1, r1, hz, q1⟩ => ⟨I1.kIn, ?_⟩) he hpl
  show wpAny _ _ (call (.ref C) us) _ _ _
  obtain ⟨hp, g, dr, tk, os⟩ := s1
  have hsz : hp.objs.size ≤ hp.objs.size + 1 := Nat.le_succ _
  have hn : H1 (hp.objs.size + 1) = none := I1.hok.fresh hsz
  have hq := q1 (hp.objs.size + 1) hn
  have kk : ∀ b o, hp.get? b = some o → ((hp.push (PySem.W.kdv_tup us)).push (PySem.HandSPX.excO C hp.objs.size)).get? b = some o := fun b o e => Heap.get?_push_of_some _ (Heap.get?_push_of_some _ e)
  have hget : ((hp.push (PySem.W.kdv_tup us)).push (PySem.HandSPX.excO C hp.objs.size)).get? (hp.objs.size + 1) = some (PySem.HandSPX.excO C hp.objs.size) := by heap_get
  have I2 : Inv X pins σ (upd H1 (hp.objs.size + 1) (exo (hp.objs.size + 1) C none)) ⟨(hp.push (PySem.W.kdv_tup us)).push (PySem.HandSPX.excO C hp.objs.size), g, dr, tk, os⟩ :=
    I1.laid (t' := tk) (a := hp.objs.size + 1) (o := exo (hp.objs.size + 1) C none) (h' := (hp.push (PySem.W.kdv_tup us)).push (PySem.HandSPX.excO C hp.objs.size)) kk hsz (exo_ok hget)
  have r2 : Vals (V.ref (hp.objs.size + 1) :: vs) (Value.ref (hp.objs.size + 1) :: us) := .cons rfl r1
  have hl : (Value.ref (hp.objs.size + 1) :: us ++ []).length = ps.length := by
    have e := r2.length
    rw [F1.size _ _ _ _ hq] at e
    rw [List.append_nil]
    exact e.symm
  have hus : us.length ≤ sizeLine := by
    rw [← Paired.length r1, sizeLine_eq]
    omega
  have hb' := hb _ (Value.ref (hp.objs.size + 1) :: us) I2.kIn hl
  rw [List.append_nil] at hb'
  refine wpAny_call (PySem.HandSPX.call_own F.excBase_ValueError (fun Y => PySem.HandSPX.refsVE_contains Y bm hbm) (I1.kIn _ _ hC) (PySem.W.looks_findIn I1.kIn iC) (fun self => PySem.W.bind_fn I1.kIn self tI) hus
    (codeAny_mono (F1.go (X.A.under (Code.builtin "type.__call__" ⟨Value.ref C :: us, []⟩)) (show (X.A.under (Code.builtin "type.__call__" ⟨Value.ref C :: us, []⟩)).guards = some [] from hA) X.stack _ _ ⟨Value.ref (hp.objs.size + 1) :: us, []⟩ (Value.ref (hp.objs.size + 1) :: us) _ _ E0 ((hr.mono hk).make C us []) (I2.env0.make C us []) hb' r2 hq) fun r s' hq' => ?_))
  cases r with
  | error er => exact pass0 pins σ _ _ er s' I2 hq'
  | ok fl =>
    cases fl with
    | ret u =>
      obtain ⟨v, H2, J, rv, ev, q2⟩ := I2.after hq'
      subst ev
      exact ⟨rv, .ref (hp.objs.size + 1), H2, J, rfl, q2⟩
    | next => exact False.elim hq'
    | brk => exact False.elim hq'
    | cont => exact False.elim hq'
end
end Mf
/-! own errors made by names alone -/
namespace PySem
namespace HandSPX
open Builtin Builtin.ObjectAttr
section
variable {prog : Program} {w : World} {M : Model} {A : Around} {E : Value → Shared → Prop} {R : Result → Shared → Prop} {h : Heap} {g : Array GenState} {d : Drawn} {t : Nat} {os : OsState}
variable {nm q : Str} {C N : Addr} {bs bm bmB : List Value} {hdct : Bool} {sn : List Str} {sub : List Value} {ab : Bool} {col : Option Bool} {dd : Option Addr} {k0 k1 k2 k3 k5 : Option Value} {B newId initId : String} {kw : List (Str × Value)}
theorem check_new_ownK (F : ExcBaseFacts B newId initId bmB) (hT : ∀ X : String, bm.contains (.type X) = bmB.contains (.type X)) {rest : List Value} {Q : Unit → Shared → Prop}
    (hC : h.get? C = some (excClassObj nm q C N bs bm hdct sn sub ab col dd k0 k1 k2 k3 k5 newId)) (hq : Q () ⟨h, g, d, t, os⟩) : wpAny M A (checkBuiltinCall newId ⟨.ref C :: rest, kw⟩) Q E ⟨h, g, d, t, os⟩ := by
  have hcont : (Value.ref C :: bm).contains (.type B) = true := by rw [List.contains_cons, hT, F.hasB, Bool.or_true]
  have hstar := F.noStar
  simp only [checkBuiltinCall, F.newKind, F.newSplit, F.newRow]
  repeat (first | refine wpAny_loadPart_at hC ?_ | (refine wpAny_isSubtype_exc hC ?_; rw [hcont]) | refine wpAny_staticBase_exc hC ?_ | refine wpAny_madeBy_exc hC ?_ | simp only [bne_self_eq_false, Bool.false_eq_true, if_false] | wp_step)
  exact hq
theorem new_ownK (F : ExcBaseFacts B newId initId bmB) (hT : ∀ X : String, bm.contains (.type X) = bmB.contains (.type X)) {rest : List Value}
    (hC : h.get? C = some (excClassObj nm q C N bs bm hdct sn sub ab col dd k0 k1 k2 k3 k5 newId))
    (hq : R (.ok (.ret (.ref (h.objs.size + 1)))) ⟨(h.push { cls := .type "tuple", data := .seq rest.toArray }).push
      { cls := .ref C, data := .fields #[.ref h.objs.size, .none, .none, .none, .bool false, .none] }, g, d, t, os⟩) (hrest : rest.length ≤ sizeLine) :
    codeAny (model prog w) A (.builtin newId ⟨.ref C :: rest, kw⟩) R ⟨h, g, d, t, os⟩ := by
  have hends := F.ends
  have hcB : (Value.ref C :: bm).contains (.type B) = true := by rw [List.contains_cons, hT, F.hasB, Bool.or_true]
  have hcA : (Value.ref C :: bm).contains (.type "AttributeError") = false := by rw [List.contains_cons, hT, F.noAttr]; rfl
  have hcN : (Value.ref C :: bm).contains (.type "NameError") = false := by rw [List.contains_cons, hT, F.noName]; rfl
  refine codeAny_builtinAt F.entry ?_
  unfold Builtin.«BaseException.__new__»
  refine wpAt_bind ?_
  show wpAt _ _ _ (stack >>= _) _ _ _
  refine wpAt_bind (wpAt_stack fun p below => wpAt_of_wpAny ?_)
  wp_walk
  refine wpAt_of_wpAny ?_
  rw [F.owner]
  repeat (first | with_reducible refine wpAny_madeHere_exc F.canon hC ?_ | with_reducible refine wpAny_loadPart_at hC ?_ | (with_reducible refine wpAny_isSubtype_exc hC ?_; first | rw [hcB] | rw [hcA] | rw [hcN]) | wp_step)
  show R _ _
  rw [Heap.size_push]
  exact hq
theorem type_call_ownK (F : ExcBaseFacts B newId initId bmB) (hT : ∀ X : String, bm.contains (.type X) = bmB.contains (.type X)) {rest : List Value} {fI : Addr} {Q : Fin → Shared → Prop}
    (hC : h.get? C = some (excClassObj nm q C N bs bm hdct sn sub ab col dd k0 k1 k2 k3 k5 newId))
    (hi : W.Looks (model prog w) h (typeLookup (.ref C) "__init__") (some (.ref fI))) (hb : ∀ self, W.Looks (model prog w) h (bindSpecial (.ref fI) self) (.ref fI, [self])) (hrest : rest.length ≤ sizeLine)
    (hq : codeAny (model prog w) A (.call (.ref fI) ⟨.ref (h.objs.size + 1) :: rest, kw⟩)
      (fun r s' => match r with | .ok (.ret v) => v = .none ∧ Q (.done (.ret (.ref (h.objs.size + 1)))) s' | .ok _ => False | .error e => E e s')
      ⟨(h.push (W.kdv_tup rest)).push (excO C h.objs.size), g, d, t, os⟩) :
    wpAny (model prog w) A (Builtin.«type.__call__» ⟨.ref C :: rest, kw⟩) Q E ⟨h, g, d, t, os⟩ := by
  repeat (first | with_reducible refine wpAny_loadPart_at hC ?_ | with_reducible refine wpAny_madeBy_exc hC ?_ | wp_step)
  refine codeAny_call_builtin_code (Code.quiet_builtin _ F.quiet) (check_new_ownK F hT hC ?_)
  refine new_ownK F hT hC ?_ hrest
  show wpAny _ _ _ _ _ _
  have k : ∀ b o, h.get? b = some o → ((h.push (W.kdv_tup rest)).push (excO C h.objs.size)).get? b = some o := fun b o e => Heap.get?_push_of_some _ (Heap.get?_push_of_some _ e)
  have hC₁ := k _ _ hC
  have hget : ((h.push (W.kdv_tup rest)).push (excO C h.objs.size)).get? (h.objs.size + 1) = some (excO C h.objs.size) := by heap_get
  have hcC : (Value.ref C :: bm).contains (.ref C) = true := by simp
  have i1 := hi.keeps k
  have b1 := (hb (.ref (h.objs.size + 1))).keeps k
  unfold isInstance
  repeat (first | with_reducible refine wpAny_loadPart_at hget ?_ | (with_reducible refine wpAny_isSubtype_exc hC₁ ?_; rw [hcC]) | wp_step)
  show wpAny _ _ (typeLookup (.ref C) _) _ _ _
  refine i1.at ?_
  refine wpAny_holding (wpAny_bind (b1.at ?_))
  refine wpAny_bind (wpAny_call (codeAny_mono hq fun r s' z => ?_))
  rcases r with e | (v | _ | _ | _) <;> first | exact z | exact z.elim | skip
  obtain ⟨rfl, z⟩ := z
  first
    | exact wpAny_pure (wpAny_pure z)
    | (wp_walk; exact z)
theorem check_type_call_subK {rest : List Value} {Q : Unit → Shared → Prop} (hC : h.get? C = some (excClassObj nm q C N bs bm hdct sn sub ab col dd k0 k1 k2 k3 k5 newId))
    (hq : Q () ⟨h, g, d, t, os⟩) : wpAny M A (checkBuiltinCall "type.__call__" ⟨.ref C :: rest, kw⟩) Q E ⟨h, g, d, t, os⟩ := by
  have f3 := tc_sub
  have hT : (⟨h, g, d, t, os⟩ : Shared).TypeIs (.ref C) "type" := ⟨_, hC, rfl⟩
  simp only [checkBuiltinCall, tc_kind, tc_split]
  repeat (any_goals (first | assumption | with_reducible refine wpAny_loadPart_at hC ?_ | with_reducible refine wpAny_onRaise ?_ | with_reducible refine wpAny_map ?_ | wp_step))
theorem call_ownK (F : ExcBaseFacts B newId initId bmB) (hT : ∀ X : String, bm.contains (.type X) = bmB.contains (.type X)) {rest : List Value} {fI : Addr}
    (hC : h.get? C = some (excClassObj nm q C N bs bm hdct sn sub ab col dd k0 k1 k2 k3 k5 newId))
    (hi : W.Looks (model prog w) h (typeLookup (.ref C) "__init__") (some (.ref fI))) (hb : ∀ self, W.Looks (model prog w) h (bindSpecial (.ref fI) self) (.ref fI, [self])) (hrest : rest.length ≤ sizeLine)
    (hq : codeAny (model prog w) (A.under (.builtin "type.__call__" ⟨.ref C :: rest, kw⟩)) (.call (.ref fI) ⟨.ref (h.objs.size + 1) :: rest, kw⟩) (W.InitBack (h.objs.size + 1) R)
      ⟨(h.push (W.kdv_tup rest)).push (excO C h.objs.size), g, d, t, os⟩) :
    codeAny (model prog w) A (.call (.ref C) ⟨rest, kw⟩) R ⟨h, g, d, t, os⟩ := by
  have f1 := tc_lookup
  have f2 := tc_bind (.ref C)
  have hTy : (⟨h, g, d, t, os⟩ : Shared).TypeIs (.ref C) "type" := ⟨_, hC, rfl⟩
  refine codeAny_of_tree ?_
  show wpAny _ _ (callAny (.ref C) _) _ _ _
  repeat (any_goals (first | assumption | with_reducible refine wpAny_loadPart_at hC ?_ | wp_step))
  refine ⟨rfl, ?_⟩
  refine codeAny_call_builtin_at (Code.quiet_builtin _ (by decide +kernel)) entry_typeCall (check_type_call_subK hC (type_call_ownK F hT hC hi hb hrest ?_))
  refine codeAny_mono hq fun r s' z => ?_
  rcases r with e | (v | _ | _ | _) <;> exact z
end
end HandSPX
end PySem
/-! own errors by their classes' names -/
namespace Mf
open PySem PySem.Spec PySem.Calls PyProof.Rows L2
theorem Er.go {H H' : Hp} {a C : Addr} {fs : List (Str × V)} (s : Same H H') (e : Er H a C fs) : Er H' a C fs := by
  obtain ⟨d, n, ea, ed⟩ := e
  exact ⟨d, n, s _ _ ea, s _ _ ed⟩
/-- what __init__ of an own error leaves: its fields -/
def sp_init (K : PySem.W.Frag) (fs : List Str) : Sp := fun vs H Q _ => ∃ (a C : Addr) (ws : List V), vs = .ref a :: ws ∧ ws.length = fs.length ∧ H a = some (exo a C none) ∧ OexC K C ∧ (∀ f ∈ fs, PySem.W.findIn K (.ref C) f = some none) ∧
  ∀ H' d, H d = none → d ≠ a → (∀ b o, b ≠ a → H b = some o → H' b = some o) → H' a = some (exo a C (some d)) → H' d = some (exd d (fs.zip ws).reverse) → Q .non H'
/-- a class of own errors, ready to be called -/
structure Ec (c : Cn) (x : Str) (C : Addr) (fs : List Str) : Prop where
  mg : c.mg x = some (.ref C)
  er : Erc c.K C
  no : ∀ f ∈ fs, PySem.W.findIn c.K (.ref C) f = some none
  ln : fs.length ≤ 900
  ex : ∃ (fI : Addr) (fd : FuncData), PySem.W.findIn c.K (.ref C) "__init__" = some (some (.ref fI)) ∧ PySem.W.typeIn c.K (.ref fI) = some (.type "function") ∧
    FnG c.P c.w c.K c.mg c.base CX0 1 fI fd ("self" :: fs) (sp_init c.K fs) ∧ L2.Binds c.K fd ("self" :: fs) [] ∧
    ∀ (s : Shared) (v : Value) (ws : List Value), ws.length = fs.length → BindsTo s fd ⟨[v], fs.reverse.zip ws⟩ ((Str.ofString "self" :: fs).zip (v :: ws.reverse))
/-- C(e, ..), an own error that is kept -/
def tMkX (c : Cn) (C : Addr) (fs : List Str) (t : TA) : TE := fun σ H Q => t σ H fun vs H1 => vs.length = fs.length ∧ ∀ a H2, H1 a = none → Same H1 H2 → Er H2 a C (fs.zip vs).reverse → Q (.ref a) H2
def tMkXk (c : Cn) (C : Addr) (fs : List Str) (t : TA) : TE := fun σ H Q => t σ H fun vs H1 => vs.length = fs.length ∧ ∀ a H2, H1 a = none → Same H1 H2 → Er H2 a C (fs.zip vs.reverse).reverse → Q (.ref a) H2
def tUp (t : TA) : TA := fun σ H Q => ∃ Q' : List V → Hp → Prop, t σ H Q' ∧ ∀ vs H1, Q' vs H1 → Q vs H1
theorem PA.up {X : Cx} {es : List Expr} {t : TA} (ha : PA X es t) : PA X es (tUp t) := ⟨fun pos pins s σ H Q I ⟨Q', h, k⟩ => thn (ha.run pos pins s σ H Q' I h) fun us s ⟨vs, H1, I1, r, q⟩ => ⟨vs, H1, I1, r, k _ _ q⟩⟩
theorem mkX_of {X : Cx} {x : Str} {C : Addr} {fs : List Str} {vs : List V} {H1 : Hp} {Q : VK} (c : Ec (cnOf X) x C fs) (q : vs.length = fs.length ∧ ∀ a H2, H1 a = none → Same H1 H2 → Er H2 a C (fs.zip vs).reverse → Q (.ref a) H2) :
    vs.length ≤ 1000 ∧ ∀ a, H1 a = none → sp_init X.K fs (.ref a :: vs) (upd H1 a (exo a C none)) (fun v H2 => v = .non ∧ Q (.ref a) H2) E0 := by
  obtain ⟨hl, q⟩ := q
  refine ⟨by rw [hl]; exact Nat.le_trans c.ln (by decide), fun a hn => ⟨a, C, vs, rfl, hl, upd_same, c.er.o, c.no, fun H' d hd n k e1 e2 => ⟨rfl, q a H' hn (fun b o z => ?_) ⟨d, n, e1, e2⟩⟩⟩⟩
  have nb : b ≠ a := ne_of_none z hn
  exact k b o nb (by rw [upd_ne nb]; exact z)
section
variable {X : Cx} {x : Str} {e : Expr} {es : List Expr} {t : TA} {p pos : Pos} {C : Addr} {j : Nat} {fs : List Str}
theorem pe_mkX (c : Ec (cnOf X) x C fs) (hA : X.A.guards = some []) (hr : Room j X.A) (hk : 2 ≤ j) (hg : Gl X x) (ha : PA X (e :: es) t)
    (hdb : (x == ("__debug__" : Str)) = false := by decide) (he : starEach (e :: es) X.env = (false, eval e X.env) :: starEach es X.env := by rfl) (hpl : (backTo pos (starEach es X.env)).any (·.1) = false := by rfl) :
    PE X (.Call (.Name x p) (e :: es) [] pos) (tMkX (cnOf X) C fs t) := by
  obtain ⟨fI, fd, iC, tI, F1, hb, _⟩ := c.ex
  have P := pe_mkE (p := p) (pos := pos) c.er.o iC tI F1 hA hr hk hb hg c.mg (PA.up ha) hdb he hpl
  refine ⟨fun pins s σ H Q I h => P.run pins s σ H Q I ⟨_, h, fun vs H1 q => ?_⟩⟩
  exact mkX_of c q
theorem pe_mkXk {kws : List Keyword} {tk : TA} (c : Ec (cnOf X) x C fs) (hA : X.A.guards = some []) (hr : Room j X.A) (hk : 2 ≤ j) (hg : Gl X x) (hkw : PK X kws tk)
    (hall : (backToKw pos (keywordEach kws X.env)).all (·.1.isSome) = true := by rfl) (hks : (backToKw pos (keywordEach kws X.env)).filterMap (·.1) = fs.reverse := by rfl)
    (hdb : (x == ("__debug__" : Str)) = false := by decide)
    (hpl : ((backTo pos (starEach [] X.env)).any (·.1) || (backToKw pos (keywordEach kws X.env)).any (·.1.isNone)) = false := by rfl) :
    PE X (.Call (.Name x p) [] kws pos) (tMkXk (cnOf X) C fs tk) := by
  obtain ⟨fI, fd, iC, tI, F1, _, hb⟩ := c.ex
  refine ⟨fun pins s σ H Q I h => ?_⟩
  obtain ⟨nm, q, N, bs, bm, sn, sub, ab, col, dd, k0, k1, k2, k3, k5, hC, hbm⟩ := c.er.o.cls
  refine wpAny_Call_Name_kw (ld_glob I hg c.mg ?_ hdb)
  refine PySem.W.callWith_KW0 (h₀ := X.base) I.ok.mod.kin c.er.o.kC hall (thn (hkw.run pos pins s σ H _ I h) ?_) hpl
  intro ws s1 ⟨zs, H1, I1, rz, hl, q1⟩
  refine ⟨I1.kIn, ?_⟩
  rw [hks]
  have l1 : ws.length = fs.length := by
    rw [← rz.length]
    exact hl
  obtain ⟨hp, g, dr, tk, os⟩ := s1
  have hsz : hp.objs.size ≤ hp.objs.size + 1 := Nat.le_succ _
  have hn : H1 (hp.objs.size + 1) = none := I1.hok.fresh hsz
  have kk : ∀ b o, hp.get? b = some o → ((hp.push (PySem.W.kdv_tup [])).push (PySem.HandSPX.excO C hp.objs.size)).get? b = some o := fun b o e => Heap.get?_push_of_some _ (Heap.get?_push_of_some _ e)
  have hget : ((hp.push (PySem.W.kdv_tup [])).push (PySem.HandSPX.excO C hp.objs.size)).get? (hp.objs.size + 1) = some (PySem.HandSPX.excO C hp.objs.size) := by heap_get
  have I2 : Inv X pins σ (upd H1 (hp.objs.size + 1) (exo (hp.objs.size + 1) C none)) ⟨(hp.push (PySem.W.kdv_tup [])).push (PySem.HandSPX.excO C hp.objs.size), g, dr, tk, os⟩ :=
    I1.laid (t' := tk) (a := hp.objs.size + 1) (o := exo (hp.objs.size + 1) C none) (h' := (hp.push (PySem.W.kdv_tup [])).push (PySem.HandSPX.excO C hp.objs.size)) kk hsz (exo_ok hget)
  have r2 : Vals (V.ref (hp.objs.size + 1) :: zs.reverse) (Value.ref (hp.objs.size + 1) :: ws.reverse) := .cons rfl rz.reverse
  have hq : sp_init X.K fs (V.ref (hp.objs.size + 1) :: zs.reverse) (upd H1 (hp.objs.size + 1) (exo (hp.objs.size + 1) C none)) (fun v H2 => v = .non ∧ Q (.ref (hp.objs.size + 1)) H2) E0 :=
    (mkX_of c (vs := zs.reverse) ⟨by rw [List.length_reverse]; exact hl, q1⟩).2 _ hn
  refine wpAny_call (PySem.HandSPX.call_ownK F.excBase_ValueError (fun Y => PySem.HandSPX.refsVE_contains Y bm hbm) (I1.kIn _ _ hC) (PySem.W.looks_findIn I1.kIn iC) (fun self => PySem.W.bind_fn I1.kIn self tI) (Nat.zero_le _)
    (codeAny_mono (F1.go (X.A.under (Code.builtin "type.__call__" ⟨[Value.ref C], fs.reverse.zip ws⟩)) (show (X.A.under (Code.builtin "type.__call__" ⟨[Value.ref C], fs.reverse.zip ws⟩)).guards = some [] from hA) X.stack _ _ ⟨[Value.ref (hp.objs.size + 1)], fs.reverse.zip ws⟩ (Value.ref (hp.objs.size + 1) :: ws.reverse) _ _ E0 ((hr.mono hk).make C [] (fs.reverse.zip ws)) (I2.env0.make C [] (fs.reverse.zip ws)) (hb _ _ ws l1) r2 hq) fun r s' hq' => ?_))
  cases r with
  | error er => exact pass0 pins σ _ _ er s' I2 hq'
  | ok fl =>
    cases fl with
    | ret u =>
      obtain ⟨v, H2, J, rv, ev, q2⟩ := I2.after hq'
      subst ev
      exact ⟨rv, .ref (hp.objs.size + 1), H2, J, rfl, q2⟩
    | next => exact False.elim hq'
    | brk => exact False.elim hq'
    | cont => exact False.elim hq'
end
end Mf
/-! what the classes' objects tell -/
namespace Mf
open PySem PySem.Spec PySem.Calls PyProof.Rows L2
/-- at C: an own error's class, its mro behind itself bm -/
def ClsAt (K : PySem.W.Frag) (C : Addr) (bm : List Value) : Prop := ∃ nm q N bs sn sub ab col dd k0 k1 k2 k3 k5, K.lookup C = some (excClassObj nm q C N bs bm true sn sub ab col dd k0 k1 k2 k3 k5 "ValueError.__new__")
abbrev veT : List Value := [.type "ValueError", .type "Exception", .type "BaseException", .type "object"]
section
variable {K : PySem.W.Frag} {C D : Addr} {bm bd : List Value}
theorem ClsAt.clsIn (h : ClsAt K C bm) : ∃ cd, PySem.W.clsIn K C = some cd ∧ cd.mro = .ref C :: bm ∧ cd.hasDict = true := by
  obtain ⟨nm, q, N, bs, sn, sub, ab, col, dd, k0, k1, k2, k3, k5, h⟩ := h
  exact ⟨_, by unfold PySem.W.clsIn; rw [h] <;> rfl, rfl, rfl⟩
theorem ClsAt.mro (h : ClsAt K C bm) (u : Value) : PySem.W.mroIn K C u = some ((Value.ref C :: bm).contains u) := by
  obtain ⟨cd, h1, h2, _⟩ := h.clsIn
  unfold PySem.W.mroIn
  rw [h1, Option.bind_some, h2]
  rfl
theorem ClsAt.ty (h : ClsAt K C bm) : PySem.W.typeIn K (.ref C) = some (.type "type") := by
  obtain ⟨nm, q, N, bs, sn, sub, ab, col, dd, k0, k1, k2, k3, k5, h⟩ := h
  show (K.lookup C).map (·.cls) = _
  rw [h] <;> rfl
theorem ClsAt.hd (h : ClsAt K C bm) : PySem.W.hasDictIn K C = true := by
  obtain ⟨cd, h1, _, h3⟩ := h.clsIn
  unfold PySem.W.hasDictIn
  rw [h1]
  exact h3
theorem kit_own (h : ClsAt K C bm) (g : ClsAt K D bd) : PySem.W.kitOne K (.ref C) (.ref D) = some (decide (C = D) || bm.contains (.ref D)) := by
  unfold PySem.W.kitOne
  by_cases e : C = D
  · subst e
    rw [if_pos (beq_self_eq_true _), decide_eq_true rfl]
    rfl
  · have ne : ¬ ((Value.ref C == Value.ref D) = true) := fun z => e (Value.ref.inj (beq_iff_eq.mp z))
    rw [if_neg ne, decide_eq_false e, Bool.false_or]
    obtain ⟨cd, h1, _⟩ := g.clsIn
    show (if ((PySem.W.clsIn K D).isSome && PySem.W.typeIn K (.ref D) == some (.type "type")) = true then PySem.W.mroIn K C (.ref D) else none) = _
    rw [h1, g.ty, if_pos (by simp), h.mro]
    have n2 : (Value.ref D == Value.ref C) = false := by
      cases z : (Value.ref D == Value.ref C) with
      | false => rfl
      | true => exact absurd (Value.ref.inj (beq_iff_eq.mp z)).symm e
    rw [List.contains_cons, n2, Bool.false_or]
theorem kit_blt {T : String} {b : Bool} (h : ClsAt K C bm) (hm : PySem.W.kitMeta T = true) (hb : bm.contains (.type T) = b) : PySem.W.kitOne K (.ref C) (.type T) = some b := by
  unfold PySem.W.kitOne
  have ne : ¬ ((Value.ref C == Value.type T) = true) := fun z => by
    have z' := beq_iff_eq.mp z
    cases z'
  rw [if_neg ne]
  show (if PySem.W.kitMeta T = true then PySem.W.mroIn K C (.type T) else none) = _
  rw [if_pos hm, h.mro, List.contains_cons]
  have n2 : (Value.type T == Value.ref C) = false := by
    cases z : (Value.type T == Value.ref C) with
    | false => rfl
    | true =>
      have z' := beq_iff_eq.mp z
      cases z'
  rw [n2, Bool.false_or, hb]
end
/-- the class as it stands -/
structure Ed (c : Cn) (x q : Str) (st : Stmt) (C : Addr) (bm : List Value) (fs : List Str) : Prop where
  mg : c.mg x = some (.ref C)
  cl : ClsAt c.K C bm
  ve : PySem.HandSPX.refsVE bm = true
  ob : bm.contains (.type "object") = true
  be : bm.contains (.type "BaseException") = true
  sa : PySem.W.findIn c.K (.ref C) "__setattr__" = some (some (.builtin "object.__setattr__"))
  kC : PySem.W.keepIn c.K (.ref C) = true
  hg : PySem.W.findIn c.K (.ref C) "__getattribute__" = some (some (.builtin "BaseException.__getattribute__"))
  hk : PySem.W.findIn c.K (.ref C) "__getattr__" = some none
  ha : PySem.W.findIn c.K (.ref C) "__class__" = some (some (.builtin "object.__class__"))
  hn : PySem.W.specialIn c.K (.builtin "object.__class__") "__get__" = some (some (.builtin "getset_descriptor.__get__"))
  ht : PySem.W.takesIn c.K (.builtin "object.__class__") = some true
  no : ∀ f ∈ fs, PySem.W.findIn c.K (.ref C) f = some none
  ex : ∃ (fI : Addr) (fd : FuncData), PySem.W.findIn c.K (.ref C) "__init__" = some (some (.ref fI)) ∧ PySem.W.typeIn c.K (.ref fI) = some (.type "function") ∧ Fun c.K "__init__" q st fI fd
section
variable {c : Cn} {x q : Str} {st : Stmt} {C : Addr} {bm : List Value} {fs : List Str}
theorem Ed.erc (D : Ed c x q st C bm fs) : Erc c.K C := by
  have hs : PySem.W.subIn c.K (.ref C) (.type "BaseException") = some true := by
    show PySem.W.mroIn c.K C (.type "BaseException") = some true
    rw [D.cl.mro, List.contains_cons, D.be, Bool.or_true]
  have hm : PySem.W.mroIn c.K C (.type "object") = some true := by
    rw [D.cl.mro, List.contains_cons, D.ob, Bool.or_true]
  obtain ⟨nm, qn, N, bs, sn, sub, ab, col, dd, k0, k1, k2, k3, k5, h⟩ := D.cl
  exact ⟨⟨⟨nm, qn, N, bs, bm, sn, sub, ab, col, dd, k0, k1, k2, k3, k5, h, D.ve⟩, D.sa, hs, ClsAt.ty ⟨nm, qn, N, bs, sn, sub, ab, col, dd, k0, k1, k2, k3, k5, h⟩, D.kC⟩,
    ⟨D.hg, D.hk, hs, ClsAt.hd ⟨nm, qn, N, bs, sn, sub, ab, col, dd, k0, k1, k2, k3, k5, h⟩, D.ha, D.hn, D.ht, hm⟩⟩
def PlI (q : Str) (st : Stmt) (ps : List Str) : Prop := ∀ (kV doc pm : Value) (an : Option Addr) (cdv ct : Value) (us : List Value), us.length = ps.length →
  bindArgs (PySem.W.fnOf "__init__" q (defArgs st) (defBody st) (defScope st) .none kV doc pm an cdv ct) ⟨us, []⟩ = pure (ps.zip us)
def PkI (q : Str) (st : Stmt) (fs : List Str) : Prop := ∀ (kV doc pm : Value) (an : Option Addr) (cdv ct : Value) (v : Value) (ws : List Value), ws.length = fs.length →
  bindArgs (PySem.W.fnOf "__init__" q (defArgs st) (defBody st) (defScope st) .none kV doc pm an cdv ct) ⟨[v], fs.reverse.zip ws⟩ = pure ((Str.ofString "self" :: fs).zip (v :: ws.reverse))
theorem Ed.ec {N : List Str} (D : Ed c x q st C bm fs) (hz : fs.length ≤ 900) (S : FnScope N (Str.ofString "self" :: fs) (defScope st)) (hp : PlI q st (Str.ofString "self" :: fs)) (hk : PkI q st fs)
    (hbody : ∀ (f : Addr) (cdv : Value) (A : Around) (outer : List Env) (s : Shared) (H : Hp) (vs : List V) (Q : VK) (E : XK),
      sp_init c.K fs vs H Q E → ∃ t, PSs (cxOf CX0 c.P c.w c.K c.mg c.base N q (defScope st) f cdv A outer s H E).nox (defBody st) t ∧
        t { nx := fun _ H' => Q .non H', rt := Q } (start N vs) H) : Ec c x C fs := by
  obtain ⟨fI, fd, iC, tI, F⟩ := D.ex
  refine ⟨D.mg, D.erc, D.no, hz, fI, fd, iC, tI, okG F S (fun vs H Q E h => ?_) (fun cdv A outer s H vs Q E _ _ h => hbody fI cdv A outer s H vs Q E h), F.binds hp, fun s v ws hl => ?_⟩
  · obtain ⟨a, C, ws, rfl, hl, _⟩ := h
    show ws.length + 1 = fs.length + 1
    rw [hl]
  · obtain ⟨oc, od, kV, doc, pm, an, cdv, ct, osl, rfl, lk, hcd⟩ := F.ex
    exact .of_eq (hk kV doc pm an cdv ct v ws hl)
/-- self.f = f -/
theorem init1_rd {K : PySem.W.Frag} {f : Str} {vs : List V} {H : Hp} {Q : VK} {E : XK} (h : sp_init K [f] vs H Q E) :
    tOst K f (tVar 0) (tVar 1) { nx := fun _ H' => Q .non H', rt := Q } (start ["self", f] vs) H := by
  obtain ⟨a, C, ws, rfl, hl, e, T, no, k⟩ := h
  match ws, hl with
  | [v], _ =>
    unfold tOst
    refine g_var (v := v) rfl ?_
    refine g_var (v := .ref a) rfl ?_
    refine ⟨a, C, rfl, T, no f (List.mem_cons_self ..), .inl ⟨e, fun dx hd ne => ?_⟩⟩
    refine k _ dx hd ne (fun b o nb eb => ?_) upd_same (by rw [upd_ne ne]; exact upd_same)
    rw [upd_ne nb, upd_ne (ne_of_none eb hd)]
    exact eb
theorem init2_rd {K : PySem.W.Frag} {f g : Str} {vs : List V} {H : Hp} {Q : VK} {E : XK} (h : sp_init K [f, g] vs H Q E) :
    tSeq (tOst K f (tVar 0) (tVar 1)) (tOst K g (tVar 0) (tVar 2)) { nx := fun _ H' => Q .non H', rt := Q } (start ["self", f, g] vs) H := by
  obtain ⟨a, C, ws, rfl, hl, e, T, no, k⟩ := h
  match ws, hl with
  | [v, z], _ =>
    refine g_seq ?_
    unfold tOst
    refine g_var (v := v) rfl ?_
    refine g_var (v := .ref a) rfl ?_
    refine ⟨a, C, rfl, T, no f (List.mem_cons_self ..), .inl ⟨e, fun dx hd ne => ?_⟩⟩
    have e1 : upd (upd H dx (exd dx [(f, v)])) a (exo a C (some dx)) a = some (exo a C (some dx)) := upd_same
    have e2 : upd (upd H dx (exd dx [(f, v)])) a (exo a C (some dx)) dx = some (exd dx [(f, v)]) := by
      rw [upd_ne ne]
      exact upd_same
    dsimp only
    refine g_var (v := z) rfl ?_
    refine g_var (v := .ref a) rfl ?_
    refine ⟨a, C, rfl, T, no g (List.mem_cons_of_mem _ (List.mem_cons_self ..)), .inr ⟨dx, _, e1, e2, by show 1 ≤ 900; decide, ?_⟩⟩
    refine k _ dx hd ne (fun b o nb eb => ?_) (by rw [upd_ne (Ne.symm ne)]; exact e1) upd_same
    rw [upd_ne (ne_of_none eb hd), upd_ne nb, upd_ne (ne_of_none eb hd)]
    exact eb
end
end Mf
/-! own errors that are raised, and caught; repr of values with an empty dict -/
namespace Mf
open PySem PySem.Spec PySem.Calls PyProof.Rows L2
def tMkR (C : Addr) (fs : List Str) (t : TA) : L2.St → Hp → XK → Prop := fun σ H Q => t σ H fun vs H1 => vs.length = fs.length ∧ ∀ d H2, H1 d = none → Same H1 H2 → H2 d = some (.xd (fs.zip vs).reverse) → Q (.ref C) (some d) H2
def tMkRk (C : Addr) (fs : List Str) (t : TA) : L2.St → Hp → XK → Prop := fun σ H Q => t σ H fun vs H1 => vs.length = fs.length ∧ ∀ d H2, H1 d = none → Same H1 H2 → H2 d = some (.xd (fs.zip vs.reverse).reverse) → Q (.ref C) (some d) H2
theorem mkR_same {H1 H2 : Hp} {a C d : Addr} {u : HO} (hn : H1 a = none) (hd : H1 d = none) (k : ∀ b o, b ≠ a → upd H1 a (exo a C none) b = some o → H2 b = some o) : Same H1 (upd (del H2 a) d u) := fun b o e => by
  have nb : b ≠ a := ne_of_none e hn
  rw [upd_ne (ne_of_none e hd), del_ne nb]
  exact k b o nb (by rw [upd_ne nb]; exact e)
section
variable {X : Cx} {x : Str} {e : Expr} {es : List Expr} {t : TA} {p pos : Pos} {C : Addr} {j : Nat} {fs : List Str}
theorem pmk_mkX (c : Ec (cnOf X) x C fs) (hA : X.A.guards = some []) (hr : Room j X.A) (hk : 2 ≤ j) (hg : Gl X x) (ha : PA X (e :: es) t)
    (hdb : (x == ("__debug__" : Str)) = false := by decide) (he : starEach (e :: es) X.env = (false, eval e X.env) :: starEach es X.env := by rfl) (hpl : (backTo pos (starEach es X.env)).any (·.1) = false := by rfl) :
    PMk X (.Call (.Name x p) (e :: es) [] pos) (tMkR C fs t) := by
  obtain ⟨fI, fd, iC, tI, F1, hb, _⟩ := c.ex
  intro pins s σ H Q I h
  have T := c.er.o
  obtain ⟨nm, q, N, bs, bm, sn, sub, ab, col, dd, k0, k1, k2, k3, k5, hC, hbm⟩ := T.cls
  refine wpAny_Call_Name_kw (ld_glob I hg c.mg ?_ hdb)
  refine PySem.W.callWith_K (h₀ := X.base) I.ok.mod.kin T.kC (thn (ha.run pos pins s σ H _ I h) fun us s1 ⟨vs, H1, I1, r1, hz, q1⟩ => ⟨I1.kIn, ?_⟩) he hpl
  show wpAny _ _ (call (.ref C) us) _ _ _
  obtain ⟨hp, g, dr, tk, os⟩ := s1
  have hsz : hp.objs.size ≤ hp.objs.size + 1 := Nat.le_succ _
  have hn : H1 (hp.objs.size + 1) = none := I1.hok.fresh hsz
  have kk : ∀ b o, hp.get? b = some o → ((hp.push (PySem.W.kdv_tup us)).push (PySem.HandSPX.excO C hp.objs.size)).get? b = some o := fun b o e => Heap.get?_push_of_some _ (Heap.get?_push_of_some _ e)
  have hget : ((hp.push (PySem.W.kdv_tup us)).push (PySem.HandSPX.excO C hp.objs.size)).get? (hp.objs.size + 1) = some (PySem.HandSPX.excO C hp.objs.size) := by heap_get
  have I2 : Inv X pins σ (upd H1 (hp.objs.size + 1) (exo (hp.objs.size + 1) C none)) ⟨(hp.push (PySem.W.kdv_tup us)).push (PySem.HandSPX.excO C hp.objs.size), g, dr, tk, os⟩ :=
    I1.laid (t' := tk) (a := hp.objs.size + 1) (o := exo (hp.objs.size + 1) C none) (h' := (hp.push (PySem.W.kdv_tup us)).push (PySem.HandSPX.excO C hp.objs.size)) kk hsz (exo_ok hget)
  have r2 : Vals (V.ref (hp.objs.size + 1) :: vs) (Value.ref (hp.objs.size + 1) :: us) := .cons rfl r1
  have hus : us.length ≤ sizeLine := by
    rw [← Paired.length r1, sizeLine_eq, hz]
    have := c.ln
    omega
  have hq : sp_init X.K fs (V.ref (hp.objs.size + 1) :: vs) (upd H1 (hp.objs.size + 1) (exo (hp.objs.size + 1) C none))
      (fun v H2 => v = .non ∧ ∃ d, H1 d = none ∧ H2 (hp.objs.size + 1) = some (exo (hp.objs.size + 1) C (some d)) ∧ H2 d = some (exd d (fs.zip vs).reverse) ∧ Q (.ref C) (some d) (upd (del H2 (hp.objs.size + 1)) d (.xd (fs.zip vs).reverse))) E0 := by
    refine ⟨hp.objs.size + 1, C, vs, rfl, hz, upd_same, T, c.no, fun H' d hd n k e1 e2 => ?_⟩
    have hd1 : H1 d = none := by rw [upd_ne n] at hd; exact hd
    exact ⟨rfl, d, hd1, e1, e2, q1 d _ hd1 (mkR_same hn hd1 k) upd_same⟩
  have hl : (Value.ref (hp.objs.size + 1) :: us ++ []).length = (Str.ofString "self" :: fs).length := by
    have e := r2.length
    rw [F1.size _ _ _ _ hq] at e
    rw [List.append_nil]
    exact e.symm
  have hb' := hb _ (Value.ref (hp.objs.size + 1) :: us) I2.kIn hl
  rw [List.append_nil] at hb'
  refine wpAny_call (PySem.HandSPX.call_own F.excBase_ValueError (fun Y => PySem.HandSPX.refsVE_contains Y bm hbm) (I1.kIn _ _ hC) (PySem.W.looks_findIn I1.kIn iC) (fun self => PySem.W.bind_fn I1.kIn self tI) hus
    (codeAny_mono (F1.go (X.A.under (Code.builtin "type.__call__" ⟨Value.ref C :: us, []⟩)) (show (X.A.under (Code.builtin "type.__call__" ⟨Value.ref C :: us, []⟩)).guards = some [] from hA) X.stack _ _ ⟨Value.ref (hp.objs.size + 1) :: us, []⟩ (Value.ref (hp.objs.size + 1) :: us) _ _ E0 ((hr.mono hk).make C us []) (I2.env0.make C us []) hb' r2 hq) fun r s' hq' => ?_))
  cases r with
  | error er => exact pass0 pins σ _ _ er s' I2 hq'
  | ok fl =>
    cases fl with
    | ret u =>
      obtain ⟨v, H2, os2, bare2, un2, hok2, rv, ev, d, hd1, ea, ed, q2⟩ := hq'
      subst ev
      obtain ⟨h2, g2, d2, t2, os'⟩ := s'
      exact ⟨rv, mk_end (raises_own T.exC T.tyC) I1 hsz kk un2 hok2 os2 bare2 ea ed hd1 q2⟩
    | next => exact False.elim hq'
    | brk => exact False.elim hq'
    | cont => exact False.elim hq'
theorem pmk_mkXk {kws : List Keyword} {tk : TA} (c : Ec (cnOf X) x C fs) (hA : X.A.guards = some []) (hr : Room j X.A) (hk : 2 ≤ j) (hg : Gl X x) (hkw : PK X kws tk)
    (hall : (backToKw pos (keywordEach kws X.env)).all (·.1.isSome) = true := by rfl) (hks : (backToKw pos (keywordEach kws X.env)).filterMap (·.1) = fs.reverse := by rfl)
    (hdb : (x == ("__debug__" : Str)) = false := by decide)
    (hpl : ((backTo pos (starEach [] X.env)).any (·.1) || (backToKw pos (keywordEach kws X.env)).any (·.1.isNone)) = false := by rfl) :
    PMk X (.Call (.Name x p) [] kws pos) (tMkRk C fs tk) := by
  obtain ⟨fI, fd, iC, tI, F1, _, hb⟩ := c.ex
  intro pins s σ H Q I h
  have T := c.er.o
  obtain ⟨nm, q, N, bs, bm, sn, sub, ab, col, dd, k0, k1, k2, k3, k5, hC, hbm⟩ := T.cls
  refine wpAny_Call_Name_kw (ld_glob I hg c.mg ?_ hdb)
  refine PySem.W.callWith_KW0 (h₀ := X.base) I.ok.mod.kin T.kC hall (thn (hkw.run pos pins s σ H _ I h) ?_) hpl
  intro ws s1 ⟨zs, H1, I1, rz, hz, q1⟩
  refine ⟨I1.kIn, ?_⟩
  rw [hks]
  have l1 : ws.length = fs.length := by
    rw [← rz.length]
    exact hz
  obtain ⟨hp, g, dr, tk, os⟩ := s1
  have hsz : hp.objs.size ≤ hp.objs.size + 1 := Nat.le_succ _
  have hn : H1 (hp.objs.size + 1) = none := I1.hok.fresh hsz
  have kk : ∀ b o, hp.get? b = some o → ((hp.push (PySem.W.kdv_tup [])).push (PySem.HandSPX.excO C hp.objs.size)).get? b = some o := fun b o e => Heap.get?_push_of_some _ (Heap.get?_push_of_some _ e)
  have hget : ((hp.push (PySem.W.kdv_tup [])).push (PySem.HandSPX.excO C hp.objs.size)).get? (hp.objs.size + 1) = some (PySem.HandSPX.excO C hp.objs.size) := by heap_get
  have I2 : Inv X pins σ (upd H1 (hp.objs.size + 1) (exo (hp.objs.size + 1) C none)) ⟨(hp.push (PySem.W.kdv_tup [])).push (PySem.HandSPX.excO C hp.objs.size), g, dr, tk, os⟩ :=
    I1.laid (t' := tk) (a := hp.objs.size + 1) (o := exo (hp.objs.size + 1) C none) (h' := (hp.push (PySem.W.kdv_tup [])).push (PySem.HandSPX.excO C hp.objs.size)) kk hsz (exo_ok hget)
  have r2 : Vals (V.ref (hp.objs.size + 1) :: zs.reverse) (Value.ref (hp.objs.size + 1) :: ws.reverse) := .cons rfl rz.reverse
  have hq : sp_init X.K fs (V.ref (hp.objs.size + 1) :: zs.reverse) (upd H1 (hp.objs.size + 1) (exo (hp.objs.size + 1) C none))
      (fun v H2 => v = .non ∧ ∃ d, H1 d = none ∧ H2 (hp.objs.size + 1) = some (exo (hp.objs.size + 1) C (some d)) ∧ H2 d = some (exd d (fs.zip zs.reverse).reverse) ∧ Q (.ref C) (some d) (upd (del H2 (hp.objs.size + 1)) d (.xd (fs.zip zs.reverse).reverse))) E0 := by
    refine ⟨hp.objs.size + 1, C, zs.reverse, rfl, by rw [List.length_reverse]; exact hz, upd_same, T, c.no, fun H' d hd n k e1 e2 => ?_⟩
    have hd1 : H1 d = none := by rw [upd_ne n] at hd; exact hd
    exact ⟨rfl, d, hd1, e1, e2, q1 d _ hd1 (mkR_same hn hd1 k) upd_same⟩
  refine wpAny_call (PySem.HandSPX.call_ownK F.excBase_ValueError (fun Y => PySem.HandSPX.refsVE_contains Y bm hbm) (I1.kIn _ _ hC) (PySem.W.looks_findIn I1.kIn iC) (fun self => PySem.W.bind_fn I1.kIn self tI) (Nat.zero_le _)
    (codeAny_mono (F1.go (X.A.under (Code.builtin "type.__call__" ⟨[Value.ref C], fs.reverse.zip ws⟩)) (show (X.A.under (Code.builtin "type.__call__" ⟨[Value.ref C], fs.reverse.zip ws⟩)).guards = some [] from hA) X.stack _ _ ⟨[Value.ref (hp.objs.size + 1)], fs.reverse.zip ws⟩ (Value.ref (hp.objs.size + 1) :: ws.reverse) _ _ E0 ((hr.mono hk).make C [] (fs.reverse.zip ws)) (I2.env0.make C [] (fs.reverse.zip ws)) (hb _ _ ws l1) r2 hq) fun r s' hq' => ?_))
  cases r with
  | error er => exact pass0 pins σ _ _ er s' I2 hq'
  | ok fl =>
    cases fl with
    | ret u =>
      obtain ⟨v, H2, os2, bare2, un2, hok2, rv, ev, d, hd1, ea, ed, q2⟩ := hq'
      subst ev
      obtain ⟨h2, g2, d2, t2, os'⟩ := s'
      exact ⟨rv, mk_end (raises_own T.exC T.tyC) I1 hsz kk un2 hok2 os2 bare2 ea ed hd1 q2⟩
    | next => exact False.elim hq'
    | brk => exact False.elim hq'
    | cont => exact False.elim hq'
/-- e.f, e the error that the suite holds -/
def tByX (K : PySem.W.Frag) (a : Addr) (cls : Value) (d : Option Addr) (f : Str) (te : TE) : TE := fun σ H Q => te σ H fun x H1 => x = .ref a ∧ ∃ (C dd : Addr) (fs : List (Str × V)) (v : V), cls = .ref C ∧ Erc K C ∧ PySem.W.findIn K (.ref C) f = some none ∧ d = some dd ∧ H1 dd = some (.xd fs) ∧ fs.lookup f = some v ∧ Q v H1
theorem pe_byX {f : Str} {a : Addr} {oe : Obj} {cls : Value} {d : Option Addr} {pn : List (Addr × Obj)} {te : TE} (hz : Zc cls d oe) (hf : ∃ vs, oe.data = .fields vs) (he : PE (X.suite a ((a, oe) :: pn)) e te)
    (hb : attributeBase e f X.env (eval e X.env) = eval e X.env := by rfl) :
    PE (X.suite a ((a, oe) :: pn)) (.Attribute e f pos) (tByX X.K a cls d f te) := by
  refine ⟨fun pins s σ H Q I h => ?_⟩
  refine attr_of hb (thn (he.run pins s σ H _ I h) fun u s1 hh => ?_)
  obtain ⟨x, H1, I1, rx, ex, C, dd, fs, v, ec, T, no, ed, ea, l, q⟩ := hh
  subst ex
  obtain rfl : u = Value.ref a := rx
  subst ec
  subst ed
  obtain ⟨ha, _⟩ := I1.pin (a, oe) (List.mem_append_left _ List.mem_cons_self)
  obtain ⟨vs, hd⟩ := hf
  have hx : ObjOk X.prog X.w H1 s1.heap dd (.xd fs) := I1.hok dd _ ea
  obtain ⟨mA, hns, hr⟩ := hx
  obtain ⟨od, ho, hl⟩ := lookIn_ns hns
  obtain ⟨u, hu, ru⟩ := RelO.some_of (v := v) (o := mA f) (by rw [← l]; exact hr f)
  have J : PySem.W.InstAt s1.heap a oe C (some od) := ⟨ha, hz.1, by unfold PySem.W.notCls; rw [hd] <;> rfl, by rw [hz.2]; exact ho⟩
  exact HandSPX.exc_get I1.kIn J T.c.hg T.c.hk T.c.hs (PySem.W.findObj_own T.c.hd no rfl (by rw [hl, hu])) (handed_of ru) ⟨v, H1, I1.tok _, ru, q⟩
end
end Mf
/-! the fields of k00: values with an empty dict, their repr -/
namespace Mf
open PySem PySem.Spec PySem.Calls PyProof.Rows L2
def leafD : PyData → Bool
  | .none | .bool _ | .int _ | .str _ => true
  | _ => false
/-- a value of the menu: data without a list, or [i, [j]], or the empty dict -/
def Dk (q : Addr) (K : PySem.W.Frag) (H : Hp) (v : V) (d : PyData) : Prop := (leafD d = true ∧ Dq q K H v d) ∨
  (∃ (a b : Addr) (i j : Int), d = .list [.int i, .list [.int j]] ∧ v = .ref a ∧ a ≠ q ∧ b ≠ q ∧ a ≠ sysModules ∧ b ≠ sysModules ∧ H a = some (.lst [.int i, .ref b]) ∧ H b = some (.lst [.int j])) ∨
  (∃ (a : Addr) (i j : Int), d = .tuple [.int i, .int j] ∧ v = .ref a ∧ a ≠ q ∧ H a = some (.tup [.int i, .int j])) ∨
  (d = .dict [] ∧ ∃ a, v = .ref a ∧ a ≠ q ∧ H a = some (.dK []))
theorem Dk.go {q : Addr} {K : PySem.W.Frag} {H H' : Hp} {v : V} {d : PyData} (s : SameX q H H') (h : Dk q K H v d) : Dk q K H' v d := by
  rcases h with ⟨n, h⟩ | ⟨a, b, i, j, e1, e2, n1, n2, m1, m2, h1, h2⟩ | ⟨a, i, j, e1, e2, n1, h1⟩ | ⟨rfl, a, rfl, n, e⟩
  · exact .inl ⟨n, h.go s⟩
  · exact .inr (.inl ⟨a, b, i, j, e1, e2, n1, n2, m1, m2, s.kept _ _ n1 h1, s.kept _ _ n2 h2⟩)
  · exact .inr (.inr (.inl ⟨a, i, j, e1, e2, n1, s.kept _ _ n1 h1⟩))
  · exact .inr (.inr (.inr ⟨rfl, a, rfl, n, s.kept _ _ n e⟩))
inductive DkAll (q : Addr) (K : PySem.W.Frag) (H : Hp) : List V → List PyData → Prop
  | nil : DkAll q K H [] []
  | cons {v : V} {vs : List V} {d : PyData} {ds : List PyData} : Dk q K H v d → DkAll q K H vs ds → DkAll q K H (v :: vs) (d :: ds)
theorem DkAll.mem {q : Addr} {K : PySem.W.Frag} {H : Hp} : ∀ {vs : List V} {ds : List PyData} {x : V}, DkAll q K H vs ds → x ∈ vs → ∃ d ∈ ds, Dk q K H x d
  | _, _, _, .nil, h => nomatch h
  | _, _, x, .cons h t, m => by
    cases m with
    | head => exact ⟨_, List.mem_cons_self .., h⟩
    | tail _ m =>
      obtain ⟨d, hd, z⟩ := DkAll.mem t m
      exact ⟨d, List.mem_cons_of_mem _ hd, z⟩
section
variable {X : Cx} {pins : List (Addr × Obj)} {σ : L2.St} {H : Hp} {s : Shared} {q : Addr}
theorem Dk.reads (I : L2.Inv X pins σ H s) {v : V} {u : Value} {d : PyData} (h : Dk q X.K H v d) (r : RelV v u) : ∃ as, Reads s.heap u d as ∧ sysModules ∉ as := by
  rcases h with ⟨n, h⟩ | ⟨a, b, i, j, rfl, rfl, n1, n2, m1, m2, h1, h2⟩ | ⟨a, i, j, rfl, rfl, n1, h1⟩ | ⟨rfl, a, rfl, n, e⟩
  · cases h with
    | non =>
      cases r
      exact ⟨_, Reads.none, fun z => nomatch z⟩
    | bl b =>
      cases r
      exact ⟨_, Reads.bool b, fun z => nomatch z⟩
    | int i =>
      obtain ⟨t, rfl⟩ := r
      exact ⟨_, Reads.int i t, fun z => nomatch z⟩
    | str x hx =>
      obtain ⟨t, rfl⟩ := r
      exact ⟨_, Reads.str x t, fun z => nomatch z⟩
    | lst _ _ _ => exact absurd n (by unfold leafD; exact Bool.false_ne_true)
    | dct _ _ => exact absurd n (by unfold leafD; exact Bool.false_ne_true)
    | tup _ _ _ => exact absurd n (by unfold leafD; exact Bool.false_ne_true)
  · cases (show u = Value.ref a from r)
    obtain ⟨_, its, n, rv, e1⟩ := (show ObjOk X.prog X.w H s.heap a (.lst [.int i, .ref b]) from I.hok a _ h1)
    obtain ⟨_, jts, m, rw', e2⟩ := (show ObjOk X.prog X.w H s.heap b (.lst [.int j]) from I.hok b _ h2)
    cases rv with
    | cons r1 rv =>
      cases rv with
      | cons r2 rv =>
        cases rv
        cases rw' with
        | cons r3 rw' =>
          cases rw'
          obtain ⟨t1, rfl⟩ := r1
          obtain ⟨t3, rfl⟩ := r3
          rename_i u2
          cases (show u2 = Value.ref b from r2)
          refine ⟨_, Reads.list e1 rfl rfl (ReadsAll.cons (Reads.int i t1) (ReadsAll.cons (Reads.list e2 rfl rfl (ReadsAll.cons (Reads.int j t3) ReadsAll.nil)) ReadsAll.nil)), fun z => ?_⟩
          cases z with
          | head => exact m1 rfl
          | tail _ z =>
            cases z with
            | head => exact m2 rfl
            | tail _ z => cases z
  · cases (show u = Value.ref a from r)
    obtain ⟨_, its, rv, o, ho, hc, m, hd⟩ := (show ObjOk X.prog X.w H s.heap a (.tup [.int i, .int j]) from I.hok a _ h1)
    cases rv with
    | cons r1 rv =>
      cases rv with
      | cons r2 rv =>
        cases rv
        obtain ⟨t1, rfl⟩ := r1
        obtain ⟨t2, rfl⟩ := r2
        exact ⟨_, Reads.tuple ho hc hd (ReadsAll.cons (Reads.int i t1) (ReadsAll.cons (Reads.int j t2) ReadsAll.nil)), fun z => nomatch z⟩
  · cases (show u = Value.ref a from r)
    obtain ⟨_, hs, vs, kv, o, es, ep, h3, h4, h5, _, h6, _⟩ := (show ObjOk X.prog X.w H s.heap a (.dK []) from I.hok a _ e)
    cases kv
    have e5 : es.toList = [] := by
      cases z : es.toList with
      | nil => rfl
      | cons y l =>
        rw [z] at h6
        cases h6
    refine ⟨[a], Reads.dict (kvs := []) (as := []) (bs := []) h3 h4.1 h5 ?_ ?_, fun z => ?_⟩
    · rw [e5]
      exact .nil
    · rw [e5]
      exact .nil
    · rw [List.mem_singleton] at z
      rw [← z] at hs
      simp at hs
theorem DkAll.reads (I : L2.Inv X pins σ H s) : ∀ {vs : List V} {us : List Value} {ds : List PyData}, DkAll q X.K H vs ds → Vals vs us → ∃ as, ReadsAll s.heap us ds as ∧ sysModules ∉ as
  | _, _, _, .nil, .nil => ⟨_, ReadsAll.nil, fun z => nomatch z⟩
  | _, _, _, .cons (d := d) (ds := ds) h t, .cons r1 r2 => by
    obtain ⟨as, a1, a2⟩ := Dk.reads I h r1
    obtain ⟨bs, b1, b2⟩ := DkAll.reads I t r2
    exact ⟨_, ReadsAll.cons a1 b1, fun z => (List.mem_append.mp z).elim a2 b2⟩
end
section
variable {X : Cx}
/-- repr(v) of a value of the menu -/
def rReprK (K : PySem.W.Frag) : List V → Hp → VK → Prop := fun xs H Q => ∃ (q : Addr) (v : V) (d : PyData), xs = [v] ∧ Dk q K H v d ∧ d.showable = true ∧ d.depth ≤ 60 ∧ d.shown.length ≤ sizeLine ∧ Q (.str d.shown) H
theorem call_reprK (hA : X.A.guards = some []) (hu : X.A.units + 64 < cLine) : CallR X (.builtin "repr") (rReprK X.K) := by
  intro pins s σ H xs us Q I r h
  obtain ⟨q, v, d, rfl, hd, hs, hdep, hz, q1⟩ := h
  obtain ⟨u, rfl, rx⟩ := vals1 r
  obtain ⟨as, rd, hsm⟩ := Dk.reads I hd rx
  have arm : ∀ a, v = .ref a → wpAny (model X.prog X.w) X.A (call (.builtin "repr") [u]) (EP X pins σ Q) X.xe s := by
    intro a e
    subst e
    cases (show u = Value.ref a from rx)
    refine repr_of_reads' rd hs (fun _ => hsm) hA (by omega) (fun b o e => e) ?_ hz
    intro h' u tk hk
    exact ⟨.str _, H, I.kept hk, ⟨u, rfl⟩, q1⟩
  rcases hd with ⟨n, hd⟩ | ⟨a, b, i, j, e1, e2, _⟩ | ⟨a, i, j, e1, e2, _⟩ | ⟨_, a, e, _⟩
  · cases hd with
    | non =>
      cases (show u = Value.none from rx)
      exact PySem.P.repr_of_none ⟨.str _, H, I.tok _, ⟨_, rfl⟩, q1⟩
    | bl b =>
      cases (show u = Value.bool b from rx)
      exact PySem.P.repr_of_bool ⟨.str _, H, I.tok _, ⟨_, rfl⟩, q1⟩
    | int i =>
      obtain ⟨t, rfl⟩ := (show ∃ t, u = Value.int i t from rx)
      exact PySem.P.repr_of_int (of_decide_eq_true hs) ⟨.str _, H, I.tok _, ⟨_, rfl⟩, q1⟩
    | str x hx =>
      obtain ⟨t, rfl⟩ := (show ∃ t, u = Value.str x t from rx)
      exact PySem.P.repr_of_str ⟨.str _, H, I.tok _, ⟨_, rfl⟩, q1⟩ hz
    | lst _ _ _ => exact arm _ rfl
    | dct _ _ => exact arm _ rfl
    | tup _ _ _ => exact arm _ rfl
  · exact arm a e2
  · exact arm a e2
  · exact arm a e
/-- repr of a list of such that was just laid -/
def rReprL (K : PySem.W.Frag) : List V → Hp → VK → Prop := fun xs H Q => ∃ (q p : Addr) (vs : List V) (ds : List PyData), xs = [.ref p] ∧ H p = some (.lst vs) ∧ p ≠ sysModules ∧ DkAll q K H vs ds ∧ (PyData.list ds).showable = true ∧ (PyData.list ds).depth ≤ 60 ∧ (PyData.list ds).shown.length ≤ sizeLine ∧ Q (.str (PyData.list ds).shown) H
theorem call_reprL (hA : X.A.guards = some []) (hu : X.A.units + 64 < cLine) : CallR X (.builtin "repr") (rReprL X.K) := by
  intro pins s σ H xs us Q I r h
  obtain ⟨q, p, vs, ds, rfl, hp, np, hd, hs, hdep, hz, q1⟩ := h
  obtain ⟨u, rfl, rx⟩ := vals1 r
  cases (show u = Value.ref p from rx)
  obtain ⟨_, its, n, rv, h1⟩ := (show ObjOk X.prog X.w H s.heap p (.lst vs) from I.hok p _ hp)
  obtain ⟨as, ra, hsm⟩ := DkAll.reads I hd rv
  refine repr_of_reads' (as := p :: as) (Reads.list h1 rfl rfl (by simpa using ra)) hs (fun _ m => ?_) hA (by omega) (fun b o e => e) ?_ hz
  · cases m with
    | head => exact np rfl
    | tail _ m => exact hsm m
  · intro h' u tk hk
    exact ⟨.str _, H, I.kept hk, ⟨u, rfl⟩, q1⟩
/-- [..]: the new list is no table of modules -/
def NewS (xs : List V) (H : Hp) (Q : VK) : Prop := xs.length ≤ sizeLine ∧ ∀ p, H p = none → p ≠ sysModules → Q (.ref p) (upd H p (.lst xs))
def tLstS (t : TA) : TE := fun σ H Q => t σ H fun xs H1 => NewS xs H1 Q
theorem pe_lstS {es : List Expr} {pos : Pos} {t : TA} (h : PA X es t) : PE X (.List es pos) (tLstS t) := by
  refine ⟨fun pins s σ H Q I hq => ?_⟩
  refine wpAny_List_spliced (thn (h.run pos pins s σ H _ I hq) fun us s1 ⟨xs, H1, I1, r, z, q⟩ => ⟨by rw [← r.length]; exact z, ?_⟩)
  have hf : H1 s1.heap.objs.size = none := I1.hok.fresh (Nat.le_refl _)
  refine ⟨.ref s1.heap.objs.size, upd H1 s1.heap.objs.size (.lst xs), I1.laid (t' := s1.toks) (fun b u e => Heap.get?_push_of_some _ e) (Nat.le_refl _) ?_, rfl, q _ hf (Ne.symm (Nat.ne_of_lt I1.big))⟩
  exact ⟨z, us, 0, r, Heap.get?_push_size _ rfl⟩
theorem g_newS {xs : List V} {H : Hp} {Q : VK} (hl : xs.length ≤ sizeLine) (q : ∀ p H2, H p = none → p ≠ sysModules → Same H H2 → H2 p = some (.lst xs) → Q (.ref p) H2) : NewS xs H Q :=
  ⟨hl, fun p hp np => q p _ hp np (same_new hp) upd_same⟩
theorem g_dnew {H : Hp} {σ : L2.St} {Q : VK} (q : ∀ p H2, H p = none → Same H H2 → H2 p = some (.dK []) → Q (.ref p) H2) : tDNewK σ H Q := fun p hp => q p _ hp (same_new hp) upd_same
end
end Mf
namespace Mf
open PySem PySem.Spec PySem.Calls PyProof.Rows L2
section
variable {K : PySem.W.Frag} {σ : L2.St} {H : Hp} {Q : VK} {te : TE} {t : TA} {f : Str} {c : Cn} {C : Addr} {fs : List Str}
theorem g_lstS (q : t σ H fun xs H1 => NewS xs H1 Q) : tLstS t σ H Q := q
def XAt (K : PySem.W.Frag) (f : Str) (x : V) (H1 : Hp) (Q : VK) : Prop := ∃ (a C : Addr) (fs : List (Str × V)) (v : V), x = .ref a ∧ Erc K C ∧ PySem.W.findIn K (.ref C) f = some none ∧ Er H1 a C fs ∧ fs.lookup f = some v ∧ Q v H1
theorem g_xat (q : te σ H fun x H1 => XAt K f x H1 Q) : tXat K f te σ H Q := q
def MkX (C : Addr) (fs : List Str) (vs : List V) (H1 : Hp) (Q : VK) : Prop := vs.length = fs.length ∧ ∀ a H2, H1 a = none → Same H1 H2 → Er H2 a C (fs.zip vs).reverse → Q (.ref a) H2
def MkXk (C : Addr) (fs : List Str) (vs : List V) (H1 : Hp) (Q : VK) : Prop := vs.length = fs.length ∧ ∀ a H2, H1 a = none → Same H1 H2 → Er H2 a C (fs.zip vs.reverse).reverse → Q (.ref a) H2
theorem g_mkX (q : t σ H fun vs H1 => MkX C fs vs H1 Q) : tMkX c C fs t σ H Q := q
theorem g_mkXk (q : t σ H fun vs H1 => MkXk C fs vs H1 Q) : tMkXk c C fs t σ H Q := q
end
section
variable {K : PySem.W.Frag} {σ : L2.St} {H : Hp} {Q : VK}
theorem g_tupG {a : Addr} {xs : List V} {n : Nat} {t : TGs} {R : L2.St → Hp → Prop} (h : SqT K H a xs) (hl : xs.length = n) (q : t xs σ H R) : gTup K n t (.ref a) σ H R := ⟨a, xs, rfl, h, hl, q⟩
theorem g_consG {v : V} {vr : List V} {t : TG} {u : TGs} {R : L2.St → Hp → Prop} (q : t v σ H fun σ' H' => u vr σ' H' R) : gCons t u (v :: vr) σ H R := ⟨v, vr, rfl, q⟩
theorem g_nilG {R : L2.St → Hp → Prop} (q : R σ H) : gNil [] σ H R := ⟨rfl, q⟩
/-- a statement whose end is told apart -/
theorem g_seqJ {s1 s2 : TS} {D : Ends} (Pv : L2.St → Hp → Prop) (h1 : ∀ nx : L2.St → Hp → Prop, (∀ σ H, Pv σ H → nx σ H) → s1 ⟨nx, D.rt, D.bk, D.ct⟩ σ H) (h2 : ∀ σ H, Pv σ H → s2 D σ H) : tSeq s1 s2 D σ H := h1 _ h2
end
/-- errors of a part, one class behind another from C i on -/
inductive ErL (C : Nat → Addr) (v : V) (H : Hp) : Nat → List V → Prop
  | nil (i : Nat) : ErL C v H i []
  | cons {i : Nat} {a : Addr} {l : List V} : Er H a (C i) [("part", v)] → ErL C v H (i + 1) l → ErL C v H i (.ref a :: l)
theorem ErL.go {C : Nat → Addr} {v : V} {H H' : Hp} (s : Same H H') : ∀ {l : List V} {i : Nat}, ErL C v H i l → ErL C v H' i l
  | _, _, .nil i => .nil i
  | _, _, .cons e t => .cons (e.go s) (t.go s)
theorem ErL.at {C : Nat → Addr} {v : V} {H : Hp} : ∀ {l : List V} {i k : Nat} {x : V}, ErL C v H i l → l[k]? = some x → ∃ a, x = .ref a ∧ Er H a (C (i + k)) [("part", v)]
  | _, i, k, x, .nil _, h => by cases k <;> cases h
  | _, i, 0, x, .cons (a := a) e t, h => by
    cases h
    exact ⟨a, rfl, e⟩
  | _, i, k + 1, x, .cons e t, h => by
    obtain ⟨a, e1, e2⟩ := ErL.at t (k := k) h
    refine ⟨a, e1, ?_⟩
    rw [show i + (k + 1) = i + 1 + k by omega]
    exact e2
/-- errors as they are drawn and raised: caught as C's base -/
theorem exm_of {K : PySem.W.Frag} {C F : Addr} (h : ClsAt K C (.ref F :: veT)) (g : ClsAt K F veT) : PySem.W.exmOne K (.ref C) (.ref F) = some true := by
  refine PySem.W.exm_ref ?_ g.hd g.ty ?_
  · show PySem.W.mroIn K F (.type "BaseException") = some true
    rw [g.mro]
    rfl
  · show PySem.W.mroIn K C (.ref F) = some true
    rw [h.mro, List.contains_cons, List.contains_cons, beq_self_eq_true, Bool.true_or, Bool.or_true]
end Mf
namespace Mf
open PySem PySem.Spec PyProof.Rows L2
local macro_rules | `(tactic| walk_at "mf1") => `(tactic| first
  | ((with_reducible apply g_var); exact rfl)
  | with_reducible first
    | refine g_c ?_ | refine g_op ?_ | refine g_un ?_ | refine g_cb ?_ | refine g_cl ?_ | refine g_clk ?_ | refine g_nil ?_ | refine g_cons ?_
    | refine g_tB ?_ | refine g_test ?_ | refine g_bl ?_ | refine g_and ?_ | refine g_or ?_ | refine g_not ?_ | refine g_andV ?_ | refine g_orV ?_ | refine g_notV ?_
    | refine g_if ?_ | refine g_ifS ?_ | refine g_seq ?_ | refine g_next ?_ | refine g_ret ?_ | refine g_drop ?_ | refine g_asg ?_ | refine g_name ?_ | refine g_sub ?_
    | refine g_int ?_ | refine g_intB ?_ | refine g_abs ?_ | refine g_I0 ?_ | refine g_addI ?_ | refine g_U ?_ | refine g_isNn ?_ | refine g_isNi ?_ | refine g_notN ?_ | refine g_notT1 ?_ | refine g_notT2 ?_ | refine g_notT3 ?_ | refine g_notT4 ?_ | refine g_notTb ?_ | refine g_notTi ?_ | refine g_eqI ?_ | refine g_neI ?_ | refine g_neSs ?_ | refine g_neS ?_ | refine g_eqS ?_
    | refine g_iteT ?_ | refine g_iteF ?_ | refine g_iteNT ?_ | refine g_iteNF ?_ | refine g_lst ?_ | refine g_lstS ?_ | refine g_xat ?_ | refine g_mkX ?_ | refine g_mkXk ?_ | refine g_tup ?_ | refine g_seqP ?_ | refine g_sl ?_ | refine g_noPart ?_ | refine g_part ?_ | refine g_yes ?_ | refine g_thenT ?_ | refine g_consG ?_ | refine g_nilG ?_ | refine g_ii ?_ | refine g_par ?_ | refine g_par3 ?_ | refine g_vv ?_ | refine g_vvv ?_ | refine g_reprB ?_ | refine g_lcL ?_ | refine g_lcR ?_
  | ((with_reducible refine g_mod ?_ ?_); (first | omega | decide))
  | ((with_reducible refine g_div ?_ ?_ ?_); (first | omega | decide); (first | assumption | decide))
  | ((with_reducible refine g_mulL ?_ ?_ ?_); (first | omega | decide); (first | omega | decide))
  | ((with_reducible refine g_mulR ?_ ?_ ?_); (first | omega | decide); (first | omega | decide))
  | ((with_reducible refine g_pow ?_ ?_ ?_ ?_); decide; decide; (first | omega | decide))
  | dsimp only)
local macro_rules | `(tactic| walk_at "mf1s") => `(tactic| first
  | ((with_reducible apply g_var); exact rfl)
  | with_reducible first
    | refine g_c ?_ | refine g_op ?_ | refine g_un ?_ | refine g_cb ?_ | refine g_cl ?_ | refine g_clk ?_ | refine g_nil ?_ | refine g_cons ?_
    | refine g_tB ?_ | refine g_test ?_ | refine g_bl ?_ | refine g_and ?_ | refine g_or ?_ | refine g_not ?_ | refine g_andV ?_ | refine g_orV ?_ | refine g_notV ?_
    | refine g_if ?_ | refine g_ifS ?_ | refine g_next ?_ | refine g_ret ?_ | refine g_drop ?_ | refine g_asg ?_ | refine g_name ?_ | refine g_sub ?_
    | refine g_int ?_ | refine g_intB ?_ | refine g_abs ?_ | refine g_I0 ?_ | refine g_addI ?_ | refine g_U ?_ | refine g_isNn ?_ | refine g_isNi ?_ | refine g_notN ?_ | refine g_notT1 ?_ | refine g_notT2 ?_ | refine g_notT3 ?_ | refine g_notT4 ?_ | refine g_notTb ?_ | refine g_notTi ?_ | refine g_eqI ?_ | refine g_neI ?_ | refine g_neSs ?_ | refine g_neS ?_ | refine g_eqS ?_
    | refine g_iteT ?_ | refine g_iteF ?_ | refine g_iteNT ?_ | refine g_iteNF ?_ | refine g_lst ?_ | refine g_lstS ?_ | refine g_xat ?_ | refine g_mkX ?_ | refine g_mkXk ?_ | refine g_tup ?_ | refine g_seqP ?_ | refine g_sl ?_ | refine g_noPart ?_ | refine g_part ?_ | refine g_yes ?_ | refine g_thenT ?_ | refine g_consG ?_ | refine g_nilG ?_ | refine g_ii ?_ | refine g_par ?_ | refine g_par3 ?_ | refine g_vv ?_ | refine g_vvv ?_ | refine g_reprB ?_ | refine g_lcL ?_ | refine g_lcR ?_
  | ((with_reducible refine g_mod ?_ ?_); (first | omega | decide))
  | ((with_reducible refine g_div ?_ ?_ ?_); (first | omega | decide); (first | assumption | decide))
  | ((with_reducible refine g_mulL ?_ ?_ ?_); (first | omega | decide); (first | omega | decide))
  | ((with_reducible refine g_mulR ?_ ?_ ?_); (first | omega | decide); (first | omega | decide))
  | ((with_reducible refine g_pow ?_ ?_ ?_ ?_); decide; decide; (first | omega | decide))
  | dsimp only)
local macro_rules | `(tactic| walk_at "mfs") => `(tactic| repeat walk_at "mf1s")
local macro_rules | `(tactic| walk_at "mf") => `(tactic| repeat walk_at "mf1")
local macro_rules | `(tactic| walk_at "ed") => `(tactic| repeat (first
  | with_reducible first
    | exact eds_nil | apply eds_cons | exact ed_int | exact ed_bl | exact ed_non | apply ed_neg
  | ((with_reducible apply ed_str); decide)
  | ((with_reducible apply ed_var); (exact rfl); (first | assumption | exact Dq.int _))
  | ((with_reducible apply ed_dict0); assumption)
  | ((with_reducible apply ed_dict2); assumption)
  | ((with_reducible apply ed_tup); assumption)
  | ((with_reducible apply ed_lst); assumption)
  | (with_reducible apply ed_pow)
  | (with_reducible apply ed_mul)
  | assumption
  | (exact Dq.int _)
  | (exact ⟨by decide, by decide, by decide⟩)
  | (show List.length _ ≤ 1000; simp only [List.length_cons, List.length_nil]; decide)))
def topS (i : Nat) : Stmt := PySem.Challenge.pw_mapflow_k00_errors_keep_their_fields.main.body.getD i (.Pass ⟨0, 0, 0, 0⟩)
abbrev s__law_quay : Stmt := topS 13
theorem sc__law_quay : FnScope ["script", "cell"] ["script"] (defScope s__law_quay) := ⟨rfl, rfl, rfl, by decide +kernel, rfl, by decide +kernel, by decide +kernel⟩
theorem pl__law_quay : Pl "_law_quay" s__law_quay ["script"] := fun _ _ _ _ _ _ us hl => match us, hl with | [_], _ => rfl
abbrev s__law_moor : Stmt := topS 14
theorem sc__law_moor : FnScope ["quay", "many", "rest", "turn", "cell", "stirred"] ["quay", "many"] (defScope s__law_moor) := ⟨rfl, rfl, rfl, by decide +kernel, rfl, by decide +kernel, by decide +kernel⟩
theorem pl__law_moor : Pl "_law_moor" s__law_moor ["quay", "many"] := fun _ _ _ _ _ _ us hl => match us, hl with | [_, _], _ => rfl
abbrev s__law_pick : Stmt := topS 15
theorem sc__law_pick : FnScope ["quay", "some"] ["quay", "some"] (defScope s__law_pick) := ⟨rfl, rfl, rfl, by decide +kernel, rfl, by decide +kernel, by decide +kernel⟩
theorem pl__law_pick : Pl "_law_pick" s__law_pick ["quay", "some"] := fun _ _ _ _ _ _ us hl => match us, hl with | [_, _], _ => rfl
abbrev s__law_field : Stmt := topS 16
theorem sc__law_field : FnScope ["quay"] ["quay"] (defScope s__law_field) := ⟨rfl, rfl, rfl, by decide +kernel, rfl, by decide +kernel, by decide +kernel⟩
theorem pl__law_field : Pl "_law_field" s__law_field ["quay"] := fun _ _ _ _ _ _ us hl => match us, hl with | [_], _ => rfl
abbrev s__law_parts : Stmt := topS 17
theorem sc__law_parts : FnScope ["part", "found"] ["part"] (defScope s__law_parts) := ⟨rfl, rfl, rfl, by decide +kernel, rfl, by decide +kernel, by decide +kernel⟩
theorem pl__law_parts : Pl "_law_parts" s__law_parts ["part"] := fun _ _ _ _ _ _ us hl => match us, hl with | [_], _ => rfl
abbrev s__law_which : Stmt := topS 18
theorem sc__law_which : FnScope ["error", "found"] ["error"] (defScope s__law_which) := ⟨rfl, rfl, rfl, by decide +kernel, rfl, by decide +kernel, by decide +kernel⟩
theorem pl__law_which : Pl "_law_which" s__law_which ["error"] := fun _ _ _ _ _ _ us hl => match us, hl with | [_], _ => rfl
abbrev s__law_is_plain : Stmt := topS 19
theorem sc__law_is_plain : FnScope ["error"] ["error"] (defScope s__law_is_plain) := ⟨rfl, rfl, rfl, by decide +kernel, rfl, by decide +kernel, by decide +kernel⟩
theorem pl__law_is_plain : Pl "_law_is_plain" s__law_is_plain ["error"] := fun _ _ _ _ _ _ us hl => match us, hl with | [_], _ => rfl
abbrev s__law_caught : Stmt := topS 20
theorem sc__law_caught : FnScope ["part", "way", "caught"] ["part", "way"] (defScope s__law_caught) := ⟨rfl, rfl, rfl, by decide +kernel, rfl, by decide +kernel, by decide +kernel⟩
theorem pl__law_caught : Pl "_law_caught" s__law_caught ["part", "way"] := fun _ _ _ _ _ _ us hl => match us, hl with | [_, _], _ => rfl
abbrev s_law : Stmt := topS 21
theorem sc_law : FnScope ["script", "quay", "great", "turn", "part", "other", "errors", "at", "error", "many", "text", "spot"] ["script"] (defScope s_law) := ⟨rfl, rfl, rfl, by decide +kernel, rfl, by decide +kernel, by decide +kernel⟩
theorem pl_law : Pl "law" s_law ["script"] := fun _ _ _ _ _ _ us hl => match us, hl with | [_], _ => rfl
def clsBody (s : Stmt) : List Stmt := match s with
  | .ClassDef _ _ _ b _ _ _ _ _ _ _ => b
  | _ => []
abbrev s_BadNumber : Stmt := (clsBody (topS 2)).getD 0 (.Pass ⟨0, 0, 0, 0⟩)
theorem sc_BadNumber : FnScope ["self", "part"] ["self", "part"] (defScope s_BadNumber) := ⟨rfl, rfl, rfl, by decide +kernel, rfl, by decide +kernel, by decide +kernel⟩
theorem pl_BadNumber : PlI "BadNumber.__init__" s_BadNumber ["self", "part"] := fun _ _ _ _ _ _ us hl => match us, hl with | [_, _], _ => rfl
theorem pk_BadNumber : PkI "BadNumber.__init__" s_BadNumber ["part"] := fun _ _ _ _ _ _ _ ws hl => match ws, hl with | [_], _ => rfl
abbrev s_BadMap : Stmt := (clsBody (topS 3)).getD 0 (.Pass ⟨0, 0, 0, 0⟩)
theorem sc_BadMap : FnScope ["self", "part"] ["self", "part"] (defScope s_BadMap) := ⟨rfl, rfl, rfl, by decide +kernel, rfl, by decide +kernel, by decide +kernel⟩
theorem pl_BadMap : PlI "BadMap.__init__" s_BadMap ["self", "part"] := fun _ _ _ _ _ _ us hl => match us, hl with | [_, _], _ => rfl
theorem pk_BadMap : PkI "BadMap.__init__" s_BadMap ["part"] := fun _ _ _ _ _ _ _ ws hl => match ws, hl with | [_], _ => rfl
abbrev s_BadLand : Stmt := (clsBody (topS 4)).getD 0 (.Pass ⟨0, 0, 0, 0⟩)
theorem sc_BadLand : FnScope ["self", "part"] ["self", "part"] (defScope s_BadLand) := ⟨rfl, rfl, rfl, by decide +kernel, rfl, by decide +kernel, by decide +kernel⟩
theorem pl_BadLand : PlI "BadLand.__init__" s_BadLand ["self", "part"] := fun _ _ _ _ _ _ us hl => match us, hl with | [_, _], _ => rfl
theorem pk_BadLand : PkI "BadLand.__init__" s_BadLand ["part"] := fun _ _ _ _ _ _ _ ws hl => match ws, hl with | [_], _ => rfl
abbrev s_BadPlace : Stmt := (clsBody (topS 5)).getD 0 (.Pass ⟨0, 0, 0, 0⟩)
theorem sc_BadPlace : FnScope ["self", "part"] ["self", "part"] (defScope s_BadPlace) := ⟨rfl, rfl, rfl, by decide +kernel, rfl, by decide +kernel, by decide +kernel⟩
theorem pl_BadPlace : PlI "BadPlace.__init__" s_BadPlace ["self", "part"] := fun _ _ _ _ _ _ us hl => match us, hl with | [_, _], _ => rfl
theorem pk_BadPlace : PkI "BadPlace.__init__" s_BadPlace ["part"] := fun _ _ _ _ _ _ _ ws hl => match ws, hl with | [_], _ => rfl
abbrev s_BadPlacing : Stmt := (clsBody (topS 6)).getD 0 (.Pass ⟨0, 0, 0, 0⟩)
theorem sc_BadPlacing : FnScope ["self", "part"] ["self", "part"] (defScope s_BadPlacing) := ⟨rfl, rfl, rfl, by decide +kernel, rfl, by decide +kernel, by decide +kernel⟩
theorem pl_BadPlacing : PlI "BadPlacing.__init__" s_BadPlacing ["self", "part"] := fun _ _ _ _ _ _ us hl => match us, hl with | [_, _], _ => rfl
theorem pk_BadPlacing : PkI "BadPlacing.__init__" s_BadPlacing ["part"] := fun _ _ _ _ _ _ _ ws hl => match ws, hl with | [_], _ => rfl
abbrev s_BadWeights : Stmt := (clsBody (topS 7)).getD 0 (.Pass ⟨0, 0, 0, 0⟩)
theorem sc_BadWeights : FnScope ["self", "part"] ["self", "part"] (defScope s_BadWeights) := ⟨rfl, rfl, rfl, by decide +kernel, rfl, by decide +kernel, by decide +kernel⟩
theorem pl_BadWeights : PlI "BadWeights.__init__" s_BadWeights ["self", "part"] := fun _ _ _ _ _ _ us hl => match us, hl with | [_, _], _ => rfl
theorem pk_BadWeights : PkI "BadWeights.__init__" s_BadWeights ["part"] := fun _ _ _ _ _ _ _ ws hl => match ws, hl with | [_], _ => rfl
abbrev s_BadPoly : Stmt := (clsBody (topS 8)).getD 0 (.Pass ⟨0, 0, 0, 0⟩)
theorem sc_BadPoly : FnScope ["self", "part"] ["self", "part"] (defScope s_BadPoly) := ⟨rfl, rfl, rfl, by decide +kernel, rfl, by decide +kernel, by decide +kernel⟩
theorem pl_BadPoly : PlI "BadPoly.__init__" s_BadPoly ["self", "part"] := fun _ _ _ _ _ _ us hl => match us, hl with | [_, _], _ => rfl
theorem pk_BadPoly : PkI "BadPoly.__init__" s_BadPoly ["part"] := fun _ _ _ _ _ _ _ ws hl => match ws, hl with | [_], _ => rfl
abbrev s_Misfit : Stmt := (clsBody (topS 9)).getD 0 (.Pass ⟨0, 0, 0, 0⟩)
theorem sc_Misfit : FnScope ["self", "part"] ["self", "part"] (defScope s_Misfit) := ⟨rfl, rfl, rfl, by decide +kernel, rfl, by decide +kernel, by decide +kernel⟩
theorem pl_Misfit : PlI "Misfit.__init__" s_Misfit ["self", "part"] := fun _ _ _ _ _ _ us hl => match us, hl with | [_, _], _ => rfl
theorem pk_Misfit : PkI "Misfit.__init__" s_Misfit ["part"] := fun _ _ _ _ _ _ _ ws hl => match ws, hl with | [_], _ => rfl
abbrev s_TooMany : Stmt := (clsBody (topS 10)).getD 0 (.Pass ⟨0, 0, 0, 0⟩)
theorem sc_TooMany : FnScope ["self", "what", "most"] ["self", "what", "most"] (defScope s_TooMany) := ⟨rfl, rfl, rfl, by decide +kernel, rfl, by decide +kernel, by decide +kernel⟩
theorem pl_TooMany : PlI "TooMany.__init__" s_TooMany ["self", "what", "most"] := fun _ _ _ _ _ _ us hl => match us, hl with | [_, _, _], _ => rfl
theorem pk_TooMany : PkI "TooMany.__init__" s_TooMany ["what", "most"] := fun _ _ _ _ _ _ _ ws hl => match ws, hl with | [_, _], _ => rfl
abbrev s_BadText : Stmt := (clsBody (topS 11)).getD 0 (.Pass ⟨0, 0, 0, 0⟩)
theorem sc_BadText : FnScope ["self", "line", "item"] ["self", "line", "item"] (defScope s_BadText) := ⟨rfl, rfl, rfl, by decide +kernel, rfl, by decide +kernel, by decide +kernel⟩
theorem pl_BadText : PlI "BadText.__init__" s_BadText ["self", "line", "item"] := fun _ _ _ _ _ _ us hl => match us, hl with | [_, _, _], _ => rfl
theorem pk_BadText : PkI "BadText.__init__" s_BadText ["line", "item"] := fun _ _ _ _ _ _ _ ws hl => match ws, hl with | [_, _], _ => rfl
structure Tx (c : Cn) (C : Nat → Addr) : Prop where
  n_ArithmeticError : c.mg "ArithmeticError" = none
  n_AttributeError : c.mg "AttributeError" = none
  n_LookupError : c.mg "LookupError" = none
  n_RuntimeError : c.mg "RuntimeError" = none
  n_TypeError : c.mg "TypeError" = none
  n_ValueError : c.mg "ValueError" = none
  n_abs : c.mg "abs" = none
  n_enumerate : c.mg "enumerate" = none
  n_int : c.mg "int" = none
  n_isinstance : c.mg "isinstance" = none
  n_len : c.mg "len" = none
  n_range : c.mg "range" = none
  n_repr : c.mg "repr" = none
  d__law_quay : De c "_law_quay" s__law_quay
  d__law_moor : De c "_law_moor" s__law_moor
  d__law_pick : De c "_law_pick" s__law_pick
  d__law_field : De c "_law_field" s__law_field
  d__law_parts : De c "_law_parts" s__law_parts
  d__law_which : De c "_law_which" s__law_which
  d__law_is_plain : De c "_law_is_plain" s__law_is_plain
  d__law_caught : De c "_law_caught" s__law_caught
  d_law : De c "law" s_law
  q_BadNumber : Ed c "BadNumber" "BadNumber.__init__" s_BadNumber (C 0) (.ref (C 10) :: veT) ["part"]
  q_BadMap : Ed c "BadMap" "BadMap.__init__" s_BadMap (C 1) (.ref (C 10) :: veT) ["part"]
  q_BadLand : Ed c "BadLand" "BadLand.__init__" s_BadLand (C 2) (.ref (C 10) :: veT) ["part"]
  q_BadPlace : Ed c "BadPlace" "BadPlace.__init__" s_BadPlace (C 3) (.ref (C 10) :: veT) ["part"]
  q_BadPlacing : Ed c "BadPlacing" "BadPlacing.__init__" s_BadPlacing (C 4) (.ref (C 10) :: veT) ["part"]
  q_BadWeights : Ed c "BadWeights" "BadWeights.__init__" s_BadWeights (C 5) (.ref (C 10) :: veT) ["part"]
  q_BadPoly : Ed c "BadPoly" "BadPoly.__init__" s_BadPoly (C 6) (.ref (C 10) :: veT) ["part"]
  q_Misfit : Ed c "Misfit" "Misfit.__init__" s_Misfit (C 7) (.ref (C 10) :: veT) ["part"]
  q_TooMany : Ed c "TooMany" "TooMany.__init__" s_TooMany (C 8) (.ref (C 10) :: veT) ["what", "most"]
  q_BadText : Ed c "BadText" "BadText.__init__" s_BadText (C 9) (.ref (C 10) :: veT) ["line", "item"]
  f_flow : c.mg "FlowError" = some (.ref (C 10))
  g_flow : ClsAt c.K (C 10) veT
  inj : ∀ i j, i < 11 → j < 11 → C i = C j → i = j
variable {C : Nat → Addr}
theorem Tx.cl {c : Cn} (T : Tx c C) : ∀ i, i < 10 → ClsAt c.K (C i) (.ref (C 10) :: veT) ∧ Erc c.K (C i)
  | 0, _ => ⟨T.q_BadNumber.cl, T.q_BadNumber.erc⟩
  | 1, _ => ⟨T.q_BadMap.cl, T.q_BadMap.erc⟩
  | 2, _ => ⟨T.q_BadLand.cl, T.q_BadLand.erc⟩
  | 3, _ => ⟨T.q_BadPlace.cl, T.q_BadPlace.erc⟩
  | 4, _ => ⟨T.q_BadPlacing.cl, T.q_BadPlacing.erc⟩
  | 5, _ => ⟨T.q_BadWeights.cl, T.q_BadWeights.erc⟩
  | 6, _ => ⟨T.q_BadPoly.cl, T.q_BadPoly.erc⟩
  | 7, _ => ⟨T.q_Misfit.cl, T.q_Misfit.erc⟩
  | 8, _ => ⟨T.q_TooMany.cl, T.q_TooMany.erc⟩
  | 9, _ => ⟨T.q_BadText.cl, T.q_BadText.erc⟩
  | n + 10, h => absurd h (by omega)
theorem Tx.kit {c : Cn} (T : Tx c C) {i j : Nat} (hi : i < 10) (hj : j < 10) : PySem.W.kitOne c.K (.ref (C i)) (.ref (C j)) = some (decide (j = i)) := by
  rw [kit_own (T.cl i hi).1 (T.cl j hj).1]
  have n : (Value.ref (C j) == Value.ref (C 10)) = false := by
    cases z : (Value.ref (C j) == Value.ref (C 10)) with
    | false => rfl
    | true =>
      have y := T.inj j 10 (by omega) (by omega) (Value.ref.inj (beq_iff_eq.mp z))
      omega
  have e : (Value.ref (C 10) :: veT).contains (.ref (C j)) = false := by
    rw [List.contains_cons, n]
    rfl
  rw [e, Bool.or_false]
  congr 1
  by_cases h : j = i
  · subst h
    rw [decide_eq_true rfl, decide_eq_true rfl]
  · rw [decide_eq_false h, decide_eq_false (fun z => h (T.inj i j (by omega) (by omega) z).symm)]
theorem Tx.kitF {c : Cn} (T : Tx c C) {i : Nat} (hi : i < 10) : PySem.W.kitOne c.K (.ref (C i)) (.ref (C 10)) = some true := by
  rw [kit_own (T.cl i hi).1 T.g_flow, List.contains_cons, beq_self_eq_true, Bool.true_or, Bool.or_true]
theorem Tx.kitB {c : Cn} (T : Tx c C) {i : Nat} (hi : i < 10) {t : String} {b : Bool} (hm : PySem.W.kitMeta t = true) (hb : veT.contains (.type t) = b) : PySem.W.kitOne c.K (.ref (C i)) (.type t) = some b := by
  refine kit_blt (T.cl i hi).1 hm ?_
  rw [List.contains_cons, hb]
  have n : (Value.type t == Value.ref (C 10)) = false := by
    cases z : (Value.type t == Value.ref (C 10)) with
    | false => rfl
    | true =>
      have z' := beq_iff_eq.mp z
      cases z'
  rw [n, Bool.false_or]
theorem ec_BadNumber (c : Cn) (T : Tx c C) : Ec c "BadNumber" (C 0) ["part"] := by
  obtain ⟨P, w, K, mg, base⟩ := c
  refine T.q_BadNumber.ec (by decide) sc_BadNumber pl_BadNumber pk_BadNumber (fun f cdv A outer s H vs Q E h => ?_)
  have S := sc_BadNumber
  exact ⟨_, pss_one (ps_ost (pv 0) (pv 1)), init1_rd h⟩
theorem ec_BadMap (c : Cn) (T : Tx c C) : Ec c "BadMap" (C 1) ["part"] := by
  obtain ⟨P, w, K, mg, base⟩ := c
  refine T.q_BadMap.ec (by decide) sc_BadMap pl_BadMap pk_BadMap (fun f cdv A outer s H vs Q E h => ?_)
  have S := sc_BadMap
  exact ⟨_, pss_one (ps_ost (pv 0) (pv 1)), init1_rd h⟩
theorem ec_BadLand (c : Cn) (T : Tx c C) : Ec c "BadLand" (C 2) ["part"] := by
  obtain ⟨P, w, K, mg, base⟩ := c
  refine T.q_BadLand.ec (by decide) sc_BadLand pl_BadLand pk_BadLand (fun f cdv A outer s H vs Q E h => ?_)
  have S := sc_BadLand
  exact ⟨_, pss_one (ps_ost (pv 0) (pv 1)), init1_rd h⟩
theorem ec_BadPlace (c : Cn) (T : Tx c C) : Ec c "BadPlace" (C 3) ["part"] := by
  obtain ⟨P, w, K, mg, base⟩ := c
  refine T.q_BadPlace.ec (by decide) sc_BadPlace pl_BadPlace pk_BadPlace (fun f cdv A outer s H vs Q E h => ?_)
  have S := sc_BadPlace
  exact ⟨_, pss_one (ps_ost (pv 0) (pv 1)), init1_rd h⟩
theorem ec_BadPlacing (c : Cn) (T : Tx c C) : Ec c "BadPlacing" (C 4) ["part"] := by
  obtain ⟨P, w, K, mg, base⟩ := c
  refine T.q_BadPlacing.ec (by decide) sc_BadPlacing pl_BadPlacing pk_BadPlacing (fun f cdv A outer s H vs Q E h => ?_)
  have S := sc_BadPlacing
  exact ⟨_, pss_one (ps_ost (pv 0) (pv 1)), init1_rd h⟩
theorem ec_BadWeights (c : Cn) (T : Tx c C) : Ec c "BadWeights" (C 5) ["part"] := by
  obtain ⟨P, w, K, mg, base⟩ := c
  refine T.q_BadWeights.ec (by decide) sc_BadWeights pl_BadWeights pk_BadWeights (fun f cdv A outer s H vs Q E h => ?_)
  have S := sc_BadWeights
  exact ⟨_, pss_one (ps_ost (pv 0) (pv 1)), init1_rd h⟩
theorem ec_BadPoly (c : Cn) (T : Tx c C) : Ec c "BadPoly" (C 6) ["part"] := by
  obtain ⟨P, w, K, mg, base⟩ := c
  refine T.q_BadPoly.ec (by decide) sc_BadPoly pl_BadPoly pk_BadPoly (fun f cdv A outer s H vs Q E h => ?_)
  have S := sc_BadPoly
  exact ⟨_, pss_one (ps_ost (pv 0) (pv 1)), init1_rd h⟩
theorem ec_Misfit (c : Cn) (T : Tx c C) : Ec c "Misfit" (C 7) ["part"] := by
  obtain ⟨P, w, K, mg, base⟩ := c
  refine T.q_Misfit.ec (by decide) sc_Misfit pl_Misfit pk_Misfit (fun f cdv A outer s H vs Q E h => ?_)
  have S := sc_Misfit
  exact ⟨_, pss_one (ps_ost (pv 0) (pv 1)), init1_rd h⟩
theorem ec_TooMany (c : Cn) (T : Tx c C) : Ec c "TooMany" (C 8) ["what", "most"] := by
  obtain ⟨P, w, K, mg, base⟩ := c
  refine T.q_TooMany.ec (by decide) sc_TooMany pl_TooMany pk_TooMany (fun f cdv A outer s H vs Q E h => ?_)
  have S := sc_TooMany
  exact ⟨_, pss_cons (ps_ost (pv 0) (pv 1)) (pss_one (ps_ost (pv 0) (pv 2))), init2_rd h⟩
theorem ec_BadText (c : Cn) (T : Tx c C) : Ec c "BadText" (C 9) ["line", "item"] := by
  obtain ⟨P, w, K, mg, base⟩ := c
  refine T.q_BadText.ec (by decide) sc_BadText pl_BadText pk_BadText (fun f cdv A outer s H vs Q E h => ?_)
  have S := sc_BadText
  exact ⟨_, pss_cons (ps_ost (pv 0) (pv 1)) (pss_one (ps_ost (pv 0) (pv 2))), init2_rd h⟩
end Mf
namespace Mf
open PySem PySem.Spec PyProof.Rows L2
local macro_rules | `(tactic| walk_at "mf1") => `(tactic| first
  | ((with_reducible apply g_var); exact rfl)
  | with_reducible first
    | refine g_c ?_ | refine g_op ?_ | refine g_un ?_ | refine g_cb ?_ | refine g_cl ?_ | refine g_clk ?_ | refine g_nil ?_ | refine g_cons ?_
    | refine g_tB ?_ | refine g_test ?_ | refine g_bl ?_ | refine g_and ?_ | refine g_or ?_ | refine g_not ?_ | refine g_andV ?_ | refine g_orV ?_ | refine g_notV ?_
    | refine g_if ?_ | refine g_ifS ?_ | refine g_seq ?_ | refine g_next ?_ | refine g_ret ?_ | refine g_drop ?_ | refine g_asg ?_ | refine g_name ?_ | refine g_sub ?_
    | refine g_int ?_ | refine g_intB ?_ | refine g_abs ?_ | refine g_I0 ?_ | refine g_addI ?_ | refine g_U ?_ | refine g_isNn ?_ | refine g_isNi ?_ | refine g_notN ?_ | refine g_notT1 ?_ | refine g_notT2 ?_ | refine g_notT3 ?_ | refine g_notT4 ?_ | refine g_notTb ?_ | refine g_notTi ?_ | refine g_eqI ?_ | refine g_neI ?_ | refine g_neSs ?_ | refine g_neS ?_ | refine g_eqS ?_
    | refine g_iteT ?_ | refine g_iteF ?_ | refine g_iteNT ?_ | refine g_iteNF ?_ | refine g_lst ?_ | refine g_lstS ?_ | refine g_xat ?_ | refine g_mkX ?_ | refine g_mkXk ?_ | refine g_tup ?_ | refine g_seqP ?_ | refine g_sl ?_ | refine g_noPart ?_ | refine g_part ?_ | refine g_yes ?_ | refine g_thenT ?_ | refine g_consG ?_ | refine g_nilG ?_ | refine g_ii ?_ | refine g_par ?_ | refine g_par3 ?_ | refine g_vv ?_ | refine g_vvv ?_ | refine g_reprB ?_ | refine g_lcL ?_ | refine g_lcR ?_
  | ((with_reducible refine g_mod ?_ ?_); (first | omega | decide))
  | ((with_reducible refine g_div ?_ ?_ ?_); (first | omega | decide); (first | assumption | decide))
  | ((with_reducible refine g_mulL ?_ ?_ ?_); (first | omega | decide); (first | omega | decide))
  | ((with_reducible refine g_mulR ?_ ?_ ?_); (first | omega | decide); (first | omega | decide))
  | ((with_reducible refine g_pow ?_ ?_ ?_ ?_); decide; decide; (first | omega | decide))
  | dsimp only)
local macro_rules | `(tactic| walk_at "mf1s") => `(tactic| first
  | ((with_reducible apply g_var); exact rfl)
  | with_reducible first
    | refine g_c ?_ | refine g_op ?_ | refine g_un ?_ | refine g_cb ?_ | refine g_cl ?_ | refine g_clk ?_ | refine g_nil ?_ | refine g_cons ?_
    | refine g_tB ?_ | refine g_test ?_ | refine g_bl ?_ | refine g_and ?_ | refine g_or ?_ | refine g_not ?_ | refine g_andV ?_ | refine g_orV ?_ | refine g_notV ?_
    | refine g_if ?_ | refine g_ifS ?_ | refine g_next ?_ | refine g_ret ?_ | refine g_drop ?_ | refine g_asg ?_ | refine g_name ?_ | refine g_sub ?_
    | refine g_int ?_ | refine g_intB ?_ | refine g_abs ?_ | refine g_I0 ?_ | refine g_addI ?_ | refine g_U ?_ | refine g_isNn ?_ | refine g_isNi ?_ | refine g_notN ?_ | refine g_notT1 ?_ | refine g_notT2 ?_ | refine g_notT3 ?_ | refine g_notT4 ?_ | refine g_notTb ?_ | refine g_notTi ?_ | refine g_eqI ?_ | refine g_neI ?_ | refine g_neSs ?_ | refine g_neS ?_ | refine g_eqS ?_
    | refine g_iteT ?_ | refine g_iteF ?_ | refine g_iteNT ?_ | refine g_iteNF ?_ | refine g_lst ?_ | refine g_lstS ?_ | refine g_xat ?_ | refine g_mkX ?_ | refine g_mkXk ?_ | refine g_tup ?_ | refine g_seqP ?_ | refine g_sl ?_ | refine g_noPart ?_ | refine g_part ?_ | refine g_yes ?_ | refine g_thenT ?_ | refine g_consG ?_ | refine g_nilG ?_ | refine g_ii ?_ | refine g_par ?_ | refine g_par3 ?_ | refine g_vv ?_ | refine g_vvv ?_ | refine g_reprB ?_ | refine g_lcL ?_ | refine g_lcR ?_
  | ((with_reducible refine g_mod ?_ ?_); (first | omega | decide))
  | ((with_reducible refine g_div ?_ ?_ ?_); (first | omega | decide); (first | assumption | decide))
  | ((with_reducible refine g_mulL ?_ ?_ ?_); (first | omega | decide); (first | omega | decide))
  | ((with_reducible refine g_mulR ?_ ?_ ?_); (first | omega | decide); (first | omega | decide))
  | ((with_reducible refine g_pow ?_ ?_ ?_ ?_); decide; decide; (first | omega | decide))
  | dsimp only)
local macro_rules | `(tactic| walk_at "mfs") => `(tactic| repeat walk_at "mf1s")
local macro_rules | `(tactic| walk_at "mf") => `(tactic| repeat walk_at "mf1")
local macro_rules | `(tactic| walk_at "ed") => `(tactic| repeat (first
  | with_reducible first
    | exact eds_nil | apply eds_cons | exact ed_int | exact ed_bl | exact ed_non | apply ed_neg
  | ((with_reducible apply ed_str); decide)
  | ((with_reducible apply ed_var); (exact rfl); (first | assumption | exact Dq.int _))
  | ((with_reducible apply ed_dict0); assumption)
  | ((with_reducible apply ed_dict2); assumption)
  | ((with_reducible apply ed_tup); assumption)
  | ((with_reducible apply ed_lst); assumption)
  | (with_reducible apply ed_pow)
  | (with_reducible apply ed_mul)
  | assumption
  | (exact Dq.int _)
  | (exact ⟨by decide, by decide, by decide⟩)
  | (show List.length _ ≤ 1000; simp only [List.length_cons, List.length_nil]; decide)))
variable {C : Nat → Addr}
theorem ok__law_quay (c : Cn) (T : Tx c C) : Cl c 1 "_law_quay" s__law_quay ["script"] (sp_quay c.K) := by
  obtain ⟨P, w, K, mg, base⟩ := c
  refine De.cl (N := ["script", "cell"]) T.d__law_quay sc__law_quay (fun vs H Q E h => ?_) (fun f0 cdv A outer s H vs Q E hA hr h => ?_)
  · obtain ⟨a, ns, rfl, _⟩ := h; rfl
  · have S := sc__law_quay
    obtain ⟨a, ns, rfl, hS, hlen, k⟩ := h
    refine ⟨_, (pss_one (ps_ret (pe_lst (pa_cons (pe_lc (own := [("cell", 1)]) (g := gName 1) (tt := tYes) rfl S.nd (pi_list (pe_slice sl_list (pv 0) po_none (po_some pe_int))) (blkOk_by (N := ["script", "cell"]) (sc := defScope s__law_quay) (by decide +kernel)) (fun _ _ _ _ _ => pg_name (i := 1) S.nd rfl (Or.inl rfl)) (fun _ _ _ _ _ => pts_nil) (fun _ _ _ _ _ => (pe_callTy call_intU (by rfl) T.n_int PyProof.Rows.boot_int (pa_cons (pv 1) pa_nil)))) (pa_cons pe_int (pa_cons pe_int pa_nil)))))), ?_⟩
    walk_at "mf"
    refine g_slL hS fun p H1 hp s1 e1 => ?_
    obtain ⟨ms, em, lm⟩ := cut_ints ns none (some 54)
    walk_at "mf"
    rw [em] at e1
    refine ⟨p, rfl, ⟨_, seqU e1⟩, ?_⟩
    refine lcgo_list (xs := ms.map V.int) (fun D i H' => Same H1 H' ∧ H' D = some (.lst ((ms.take i).map V.int))) (fun x => rfl) (fun D hD => ⟨same_new hD, upd_same⟩) (fun D i H' _ h => seqU (h.1 _ _ e1)) (fun D i x H' hD ex h => ?_) (fun D H' hD h => ?_)
    · obtain ⟨h1, h2⟩ := h
      rw [List.getElem?_map] at ex
      obtain ⟨z, ez, rfl⟩ := Option.map_eq_some_iff.mp ex
      walk_at "mf"
      have hi := (List.getElem?_eq_some_iff.mp ez).1
      refine ⟨_, h2, ?_, ?_, ?_⟩
      · rw [List.length_map, List.length_take]
        exact small1000 (by omega)
      · intro b o e
        rw [upd_ne (ne_of_none e hD)]
        exact h1 b o e
      · rw [upd_same, List.take_add_one, ez, List.map_append]
        rfl
    · obtain ⟨h1, h2⟩ := h
      rw [List.length_map, List.take_length] at h2
      walk_at "mf"
      refine g_newL (by show 3 ≤ sizeLine; decide) fun q H2 hq s2 e2 => ?_
      have hDq : D ≠ q := ne_of_none h2 hq
      refine k q H2 ((s1.trans h1).trans s2) ((s1.trans h1).free hq) ⟨D, ms, 0, e2, s2 _ _ h2, hDq, by omega, by omega, by omega⟩
theorem ok__law_moor (c : Cn) (T : Tx c C) : Cl c 1 "_law_moor" s__law_moor ["quay", "many"] (sp_moor c.K) := by
  obtain ⟨P, w, K, mg, base⟩ := c
  refine De.cl (N := ["quay", "many", "rest", "turn", "cell", "stirred"]) T.d__law_moor sc__law_moor (fun vs H Q E h => ?_) (fun f0 cdv A outer s H vs Q E hA hr h => ?_)
  · obtain ⟨q, t, n, rfl, _⟩ := h; rfl
  · have S := sc__law_moor
    obtain ⟨q, t, n, rfl, hq, ht, hn, hn9, k⟩ := h
    refine ⟨_, (pss_cons (ps_if (pt_cmpR op_gt (pe_ix ix_seq (pv 0) pe_int (fun _ _ => rfl)) pe_int (nomark _)) (pss_cons (ps_set (i := 2) S.nd rfl (by first | exact .inl rfl | exact .inr rfl) (pe_callTy call_intU (by rfl) T.n_int PyProof.Rows.boot_int (pa_cons (pe_ix ix_seq (pv 0) pe_int (fun _ _ => rfl)) pa_nil)))
      (pss_cons (ps_asg (pe_op op_fdivW (pv 2) (pv 1)) (pg_sub (pv 0) pe_int set_list))
      (pss_one (ps_ret (pe_op op_mod (pe_callTy call_intU (by rfl) T.n_int PyProof.Rows.boot_int (pa_cons (pv 2) pa_nil)) (pv 1)))))) pss_nil)
      (pss_cons (ps_set (i := 3) S.nd rfl (by first | exact .inl rfl | exact .inr rfl) (pe_ix ix_seq (pv 0) pe_int (fun _ _ => rfl)))
      (pss_cons (ps_asg (pe_op op_addU (pv 3) pe_int) (pg_sub (pv 0) pe_int set_list))
      (pss_cons (ps_set (i := 4) S.nd rfl (by first | exact .inl rfl | exact .inr rfl) (pe_op op_addU (pe_op op_mulU pe_int (pv 3)) pe_int))
      (pss_cons (ps_if (pt_cmpR (op_neU hr.units) (pe_ix ix_seq (pv 0) pe_int (fun _ _ => rfl)) (pe_lst pa_nil) (nomark _)) (pss_one (ps_set (i := 4) S.nd rfl (by first | exact .inl rfl | exact .inr rfl) (pe_ix ix_seq (pe_ix ix_seq (pv 0) pe_int (fun _ _ => rfl)) (pe_op op_mod (pe_callTy call_intU (by rfl) T.n_int PyProof.Rows.boot_int (pa_cons (pv 3) pa_nil)) (pe_callB call_lenU (by rfl) T.n_len PySem.boot_len (pa_cons (pe_ix ix_seq (pv 0) pe_int (fun _ _ => rfl)) pa_nil))) (fun _ _ => rfl)))) pss_nil)
      (pss_cons (ps_if (PW.pt (pw_and (pt_cmpR op_lt (pv 3) (pe_callB call_lenU (by rfl) T.n_len PySem.boot_len (pa_cons (pe_ix ix_seq (pv 0) pe_int (fun _ _ => rfl)) pa_nil)) (nomark _)) (pw_and1 (pt_cmpR op_ge (pe_callB call_absU (by rfl) T.n_abs (show bootBuiltins "abs" = some (.builtin "abs") by decide +kernel) (pa_cons (pv 4) pa_nil)) (pe_op op_pow pe_int pe_int) (nomark _))))) (pss_cons (ps_set (i := 2) S.nd rfl (by first | exact .inl rfl | exact .inr rfl) (pe_op op_addU (pe_op op_mulU pe_int (pe_op op_sub (pe_callB call_absU (by rfl) T.n_abs (show bootBuiltins "abs" = some (.builtin "abs") by decide +kernel) (pa_cons (pv 4) pa_nil)) (pe_op op_pow pe_int pe_int))) (pe_callTy call_intU (by rfl) T.n_int PyProof.Rows.boot_int (pa_cons (pe_cmpR op_lt (pv 4) pe_int (nomark _)) pa_nil))))
      (pss_cons (ps_asg (pe_op op_fdivW (pv 2) (pv 1)) (pg_sub (pv 0) pe_int set_list))
      (pss_one (ps_ret (pe_op op_mod (pe_callTy call_intU (by rfl) T.n_int PyProof.Rows.boot_int (pa_cons (pv 2) pa_nil)) (pv 1)))))) pss_nil)
      (pss_cons (ps_set (i := 5) S.nd rfl (by first | exact .inl rfl | exact .inr rfl) (pe_op op_mod (pe_callTy call_intU (by rfl) T.n_int PyProof.Rows.boot_int (pa_cons (pe_op op_pow (pe_op op_addU (pe_op op_addU (pe_op op_mod (pe_callTy call_intU (by rfl) T.n_int PyProof.Rows.boot_int (pa_cons (pv 4) pa_nil)) pe_int) (pe_op op_mulU pe_int (pv 3))) pe_int) pe_int) pa_nil)) pe_int))
      (pss_cons (ps_set (i := 5) S.nd rfl (by first | exact .inl rfl | exact .inr rfl) (pe_op op_mod (pe_callTy call_intU (by rfl) T.n_int PyProof.Rows.boot_int (pa_cons (pe_op op_pow (pe_op op_addU (pe_op op_addU (pe_op op_mulU (pv 5) (pe_op op_addU (pe_op op_mulU pe_int (pv 3)) pe_int)) (pe_op op_mulU (pe_op op_mulU pe_int (pv 3)) (pv 3))) pe_int) pe_int) pa_nil)) pe_int))
      (pss_one (ps_ret (pe_op op_mod (pe_callTy call_intU (by rfl) T.n_int PyProof.Rows.boot_int (pa_cons (pe_op op_fdivW (pv 5) pe_int) pa_nil)) (pv 1)))))))))))), ?_⟩
    obtain ⟨c, ns, r, eq, hc, ncq, hns, hr0, ht0⟩ := hq
    walk_at "mf"
    refine g_ix (.inl (seqU eq)) (v := .int r) rfl ?_
    walk_at "mf"
    refine g_ite (fun h => ?_) (fun h => ?_)
    · walk_at "mf"
      refine g_ix (.inl (seqU eq)) (v := .int r) rfl ?_
      walk_at "mf"
      refine g_setL eq (j := 2) rfl ?_
      walk_at "mf"
      exact k t _ _ (upd_x eq) ⟨c, ns, _, upd_same, (upd_x eq).kept _ _ ncq hc, ncq, hns, Int.ediv_nonneg hr0 (by omega), ht0⟩ (by omega) (by omega) (Int.emod_nonneg _ (by omega)) (Int.emod_lt_of_pos _ hn)
    · walk_at "mf"
      refine g_ix (.inl (seqU eq)) (v := .int t) rfl ?_
      walk_at "mf"
      refine g_setL eq (j := 1) rfl ?_
      have eq1 : (upd H q (.lst [.ref c, .int (t + 1), .int r])) q = some (.lst [.ref c, .int (t + 1), .int r]) := upd_same
      have hc1 : (upd H q (.lst [.ref c, .int (t + 1), .int r])) c = some (.lst (ns.map V.int)) := (upd_x eq).kept _ _ ncq hc
      have sx1 : SameX q H (upd H q (.lst [.ref c, .int (t + 1), .int r])) := upd_x eq
      have es : [V.ref c, .int t, .int r].set 1 (.int (t + 1)) = [.ref c, .int (t + 1), .int r] := rfl
      rw [es]
      generalize upd H q (.lst [.ref c, .int (t + 1), .int r]) = Hb at *
      walk_at "mf"
      refine g_ix (.inl (seqU eq1)) (v := .ref c) rfl ?_
      walk_at "mf"
      refine g_newL (by show 0 ≤ sizeLine; decide) fun p H2 hp s2 e2 => ?_
      have eq2 := s2 _ _ eq1
      have hc2 := s2 _ _ hc1
      have sx := sx1.trans (Same.x s2)
      walk_at "mf"
      refine g_neNil (seqU hc2) (seqU e2) ?_
      walk_at "mf"
      refine g_ite (fun h2 => ?_) (fun h2 => ?_)
      · walk_at "mf"
        refine g_ix (.inl (seqU eq2)) (v := .ref c) rfl ?_
        walk_at "mf"
        refine g_ix (.inl (seqU eq2)) (v := .ref c) rfl ?_
        walk_at "mf"
        refine g_len (.inl (seqU hc2)) ?_
        have hpos : 0 < ((ns.map V.int).length : Int) := by
          cases ns with
          | nil => cases h2
          | cons z l => rw [List.map_cons, List.length_cons]; omega
        walk_at "mf"
        obtain ⟨z, ez⟩ : ∃ z, atI (ns.map V.int) (t % ((ns.map V.int).length : Int)) = some (.int z) := by
          have b1 := Int.emod_nonneg t (Int.ne_of_gt hpos)
          have b2 := Int.emod_lt_of_pos t hpos
          have b3 : (t % ((ns.map V.int).length : Int)).toNat < ns.length := by
            rw [List.length_map] at b1 b2 ⊢
            omega
          refine ⟨ns[(t % ((ns.map V.int).length : Int)).toNat], ?_⟩
          refine at_of (j := (t % ((ns.map V.int).length : Int)).toNat) (by omega) ?_
          rw [List.getElem?_map, List.getElem?_eq_getElem b3]
          rfl
        refine g_ix (.inl (seqU hc2)) ez ?_
        walk_at "mf"
        refine g_ix (.inl (seqU eq2)) (v := .ref c) rfl ?_
        walk_at "mf"
        refine g_len (.inl (seqU hc2)) ?_
        walk_at "mf"
        refine g_ite (fun h3 => ?_) (fun h3 => ?_)
        · walk_at "mf"
          refine g_ite (fun h4 => ?_) (fun h4 => ?_)
          · have h5 := of_decide_eq_true h4
            rw [show (10 : Int) ^ (18 : Int).toNat = 1000000000000000000 by decide] at h5
            walk_at "mf"
            refine g_setL eq2 (j := 2) rfl ?_
            walk_at "mf"
            rw [show (10 : Int) ^ (18 : Int).toNat = 1000000000000000000 by decide]
            exact k (t + 1) _ _ (sx.trans (upd_x eq2)) ⟨c, ns, _, upd_same, (upd_x eq2).kept _ _ ncq hc2, ncq, hns, Int.ediv_nonneg (by split <;> omega) (by omega), by omega⟩ (by omega) (by omega) (Int.emod_nonneg _ (by omega)) (Int.emod_lt_of_pos _ hn)
          · walk_at "mf"
            walk_at "mf"
            refine g_pow (by decide) (by decide) (stir_bd (Int.emod_nonneg _ (by decide)) (Int.lt_of_lt_of_le (Int.emod_lt_of_pos _ (by decide)) (by decide)) ht0 ht (by decide) (by decide) (by decide) (by decide) (by decide) (by decide)) ?_
            walk_at "mf"
            exact k (t + 1) _ _ sx ⟨c, ns, r, eq2, hc2, ncq, hns, hr0, by omega⟩ (by omega) (by omega) (Int.emod_nonneg _ (by omega)) (Int.emod_lt_of_pos _ hn)
        · walk_at "mf"
          walk_at "mf"
          refine g_pow (by decide) (by decide) (stir_bd (Int.emod_nonneg _ (by decide)) (Int.lt_of_lt_of_le (Int.emod_lt_of_pos _ (by decide)) (by decide)) ht0 ht (by decide) (by decide) (by decide) (by decide) (by decide) (by decide)) ?_
          walk_at "mf"
          exact k (t + 1) _ _ sx ⟨c, ns, r, eq2, hc2, ncq, hns, hr0, by omega⟩ (by omega) (by omega) (Int.emod_nonneg _ (by omega)) (Int.emod_lt_of_pos _ hn)
      · walk_at "mf"
        walk_at "mf"
        refine g_ix (.inl (seqU eq2)) (v := .ref c) rfl ?_
        walk_at "mf"
        refine g_len (.inl (seqU hc2)) ?_
        walk_at "mf"
        refine g_ite (fun h3 => ?_) (fun h3 => ?_)
        · walk_at "mf"
          refine g_ite (fun h4 => ?_) (fun h4 => ?_)
          · have h5 := of_decide_eq_true h4
            rw [show (10 : Int) ^ (18 : Int).toNat = 1000000000000000000 by decide] at h5
            walk_at "mf"
            refine g_setL eq2 (j := 2) rfl ?_
            walk_at "mf"
            rw [show (10 : Int) ^ (18 : Int).toNat = 1000000000000000000 by decide]
            exact k (t + 1) _ _ (sx.trans (upd_x eq2)) ⟨c, ns, _, upd_same, (upd_x eq2).kept _ _ ncq hc2, ncq, hns, Int.ediv_nonneg (by split <;> omega) (by omega), by omega⟩ (by omega) (by omega) (Int.emod_nonneg _ (by omega)) (Int.emod_lt_of_pos _ hn)
          · walk_at "mf"
            walk_at "mf"
            refine g_pow (by decide) (by decide) (stir_bd (Int.emod_nonneg _ (by decide)) (Int.lt_of_lt_of_le (Int.emod_lt_of_pos _ (by decide)) (by decide)) ht0 ht (by decide) (by decide) (by decide) (by decide) (by decide) (by decide)) ?_
            walk_at "mf"
            exact k (t + 1) _ _ sx ⟨c, ns, r, eq2, hc2, ncq, hns, hr0, by omega⟩ (by omega) (by omega) (Int.emod_nonneg _ (by omega)) (Int.emod_lt_of_pos _ hn)
        · walk_at "mf"
          walk_at "mf"
          refine g_pow (by decide) (by decide) (stir_bd (Int.emod_nonneg _ (by decide)) (Int.lt_of_lt_of_le (Int.emod_lt_of_pos _ (by decide)) (by decide)) ht0 ht (by decide) (by decide) (by decide) (by decide) (by decide) (by decide)) ?_
          walk_at "mf"
          exact k (t + 1) _ _ sx ⟨c, ns, r, eq2, hc2, ncq, hns, hr0, by omega⟩ (by omega) (by omega) (Int.emod_nonneg _ (by omega)) (Int.emod_lt_of_pos _ hn)
theorem ok__law_pick (c : Cn) (T : Tx c C) : Cl c 2 "_law_pick" s__law_pick ["quay", "some"] (sp_pick c.K) := by
  obtain ⟨P, w, K, mg, base⟩ := c
  have C__law_moor := ok__law_moor _ T
  refine De.cl (N := ["quay", "some"]) T.d__law_pick sc__law_pick (fun vs H Q E h => ?_) (fun f0 cdv A outer s H vs Q E hA hr h => ?_)
  · obtain ⟨q, a, t, xs, rfl, _⟩ := h; rfl
  · have S := sc__law_pick
    obtain ⟨q, a, t, xs, rfl, hq, ht, na, hs, hne, hl, k⟩ := h
    refine ⟨_, (pss_one (ps_ret (pe_ix ix_seq (pv 1) (pe_f C__law_moor hA hr (by decide) pl__law_moor (by rfl) (pa_cons (pv 0) (pa_cons (pe_callB call_lenU (by rfl) T.n_len PySem.boot_len (pa_cons (pv 1) pa_nil)) pa_nil))) (fun _ _ => rfl)))), ?_⟩
    have hp : 0 < xs.length := by
      cases xs with
      | nil => exact absurd rfl hne
      | cons z r => exact Nat.succ_pos _
    walk_at "mf"
    refine g_len hs ?_
    walk_at "mf"
    refine ⟨q, t, _, rfl, hq, ht, by omega, ?_, fun t' H' i sx hq' h1 h2 h3 h4 => ?_⟩
    · rw [Int.natAbs_natCast]
      exact Nat.lt_of_lt_of_le ((Nat.log2_lt (by omega)).mpr (show xs.length < 2 ^ 10 by omega)) (by decide)
    · walk_at "mf"
      have hi : i.toNat < xs.length := by omega
      refine g_ix (hs.go sx na) (at_of (j := i.toNat) (by omega) (List.getElem?_eq_getElem hi)) ?_
      exact k t' H' _ sx hq' h1 h2 (List.getElem_mem hi)
end Mf
namespace Mf
open PySem PySem.Spec PyProof.Rows L2
local macro_rules | `(tactic| walk_at "mf1") => `(tactic| first
  | ((with_reducible apply g_var); exact rfl)
  | with_reducible first
    | refine g_c ?_ | refine g_op ?_ | refine g_un ?_ | refine g_cb ?_ | refine g_cl ?_ | refine g_clk ?_ | refine g_nil ?_ | refine g_cons ?_
    | refine g_tB ?_ | refine g_test ?_ | refine g_bl ?_ | refine g_and ?_ | refine g_or ?_ | refine g_not ?_ | refine g_andV ?_ | refine g_orV ?_ | refine g_notV ?_
    | refine g_if ?_ | refine g_ifS ?_ | refine g_seq ?_ | refine g_next ?_ | refine g_ret ?_ | refine g_drop ?_ | refine g_asg ?_ | refine g_name ?_ | refine g_sub ?_
    | refine g_int ?_ | refine g_intB ?_ | refine g_abs ?_ | refine g_I0 ?_ | refine g_addI ?_ | refine g_U ?_ | refine g_isNn ?_ | refine g_isNi ?_ | refine g_notN ?_ | refine g_notT1 ?_ | refine g_notT2 ?_ | refine g_notT3 ?_ | refine g_notT4 ?_ | refine g_notTb ?_ | refine g_notTi ?_ | refine g_eqI ?_ | refine g_neI ?_ | refine g_neSs ?_ | refine g_neS ?_ | refine g_eqS ?_
    | refine g_iteT ?_ | refine g_iteF ?_ | refine g_iteNT ?_ | refine g_iteNF ?_ | refine g_lst ?_ | refine g_lstS ?_ | refine g_xat ?_ | refine g_mkX ?_ | refine g_mkXk ?_ | refine g_tup ?_ | refine g_seqP ?_ | refine g_sl ?_ | refine g_noPart ?_ | refine g_part ?_ | refine g_yes ?_ | refine g_thenT ?_ | refine g_consG ?_ | refine g_nilG ?_ | refine g_ii ?_ | refine g_par ?_ | refine g_par3 ?_ | refine g_vv ?_ | refine g_vvv ?_ | refine g_reprB ?_ | refine g_lcL ?_ | refine g_lcR ?_
  | ((with_reducible refine g_mod ?_ ?_); (first | omega | decide))
  | ((with_reducible refine g_div ?_ ?_ ?_); (first | omega | decide); (first | assumption | decide))
  | ((with_reducible refine g_mulL ?_ ?_ ?_); (first | omega | decide); (first | omega | decide))
  | ((with_reducible refine g_mulR ?_ ?_ ?_); (first | omega | decide); (first | omega | decide))
  | ((with_reducible refine g_pow ?_ ?_ ?_ ?_); decide; decide; (first | omega | decide))
  | dsimp only)
local macro_rules | `(tactic| walk_at "mf1s") => `(tactic| first
  | ((with_reducible apply g_var); exact rfl)
  | with_reducible first
    | refine g_c ?_ | refine g_op ?_ | refine g_un ?_ | refine g_cb ?_ | refine g_cl ?_ | refine g_clk ?_ | refine g_nil ?_ | refine g_cons ?_
    | refine g_tB ?_ | refine g_test ?_ | refine g_bl ?_ | refine g_and ?_ | refine g_or ?_ | refine g_not ?_ | refine g_andV ?_ | refine g_orV ?_ | refine g_notV ?_
    | refine g_if ?_ | refine g_ifS ?_ | refine g_next ?_ | refine g_ret ?_ | refine g_drop ?_ | refine g_asg ?_ | refine g_name ?_ | refine g_sub ?_
    | refine g_int ?_ | refine g_intB ?_ | refine g_abs ?_ | refine g_I0 ?_ | refine g_addI ?_ | refine g_U ?_ | refine g_isNn ?_ | refine g_isNi ?_ | refine g_notN ?_ | refine g_notT1 ?_ | refine g_notT2 ?_ | refine g_notT3 ?_ | refine g_notT4 ?_ | refine g_notTb ?_ | refine g_notTi ?_ | refine g_eqI ?_ | refine g_neI ?_ | refine g_neSs ?_ | refine g_neS ?_ | refine g_eqS ?_
    | refine g_iteT ?_ | refine g_iteF ?_ | refine g_iteNT ?_ | refine g_iteNF ?_ | refine g_lst ?_ | refine g_lstS ?_ | refine g_xat ?_ | refine g_mkX ?_ | refine g_mkXk ?_ | refine g_tup ?_ | refine g_seqP ?_ | refine g_sl ?_ | refine g_noPart ?_ | refine g_part ?_ | refine g_yes ?_ | refine g_thenT ?_ | refine g_consG ?_ | refine g_nilG ?_ | refine g_ii ?_ | refine g_par ?_ | refine g_par3 ?_ | refine g_vv ?_ | refine g_vvv ?_ | refine g_reprB ?_ | refine g_lcL ?_ | refine g_lcR ?_
  | ((with_reducible refine g_mod ?_ ?_); (first | omega | decide))
  | ((with_reducible refine g_div ?_ ?_ ?_); (first | omega | decide); (first | assumption | decide))
  | ((with_reducible refine g_mulL ?_ ?_ ?_); (first | omega | decide); (first | omega | decide))
  | ((with_reducible refine g_mulR ?_ ?_ ?_); (first | omega | decide); (first | omega | decide))
  | ((with_reducible refine g_pow ?_ ?_ ?_ ?_); decide; decide; (first | omega | decide))
  | dsimp only)
local macro_rules | `(tactic| walk_at "mfs") => `(tactic| repeat walk_at "mf1s")
local macro_rules | `(tactic| walk_at "mf") => `(tactic| repeat walk_at "mf1")
local macro_rules | `(tactic| walk_at "ed") => `(tactic| repeat (first
  | with_reducible first
    | exact eds_nil | apply eds_cons | exact ed_int | exact ed_bl | exact ed_non | apply ed_neg
  | ((with_reducible apply ed_str); decide)
  | ((with_reducible apply ed_var); (exact rfl); (first | assumption | exact Dq.int _))
  | ((with_reducible apply ed_dict0); assumption)
  | ((with_reducible apply ed_dict2); assumption)
  | ((with_reducible apply ed_tup); assumption)
  | ((with_reducible apply ed_lst); assumption)
  | (with_reducible apply ed_pow)
  | (with_reducible apply ed_mul)
  | assumption
  | (exact Dq.int _)
  | (exact ⟨by decide, by decide, by decide⟩)
  | (show List.length _ ≤ 1000; simp only [List.length_cons, List.length_nil]; decide)))
variable {C : Nat → Addr}

def fieldsD : List PyData := [.str "cell", .str "", .int 5, .int (-1), .none, .bool true, .tuple [.int 1, .int 2], .list [.int 3, .list [.int 4]], .int (10 ^ (30 : Int).toNat), .str "two words", .dict []]
def sp_field (K : PySem.W.Frag) : Sp := fun vs H Q _ => ∃ q t, vs = [.ref q] ∧ Qy K q t H ∧ t ≤ 1000000 ∧ ∀ t' v d H', SameX q H H' → Qy K q t' H' → t ≤ t' → t' ≤ t + 1 → d ∈ fieldsD → Dk q K H' v d → Q v H'
def sp_parts (C : Nat → Addr) (K : PySem.W.Frag) : Sp := fun vs H Q _ => ∃ v, vs = [v] ∧ ∀ p l H', Same H H' → H p = none → H' p = some (.lst l) → l.length = 8 → ErL C v H' 0 l → Q (.ref p) H'
def sp_which (C : Nat → Addr) (K : PySem.W.Frag) : Sp := fun vs H Q _ => ∃ a i fs, vs = [.ref a] ∧ i < 10 ∧ Er H a (C i) fs ∧ ∀ p H', Same H H' → H' p = some (.lst ((List.range 10).map fun j => V.bl (decide (j = i)))) → Q (.ref p) H'
def sp_plain (C : Nat → Addr) (K : PySem.W.Frag) : Sp := fun vs H Q _ => ∃ a i fs, vs = [.ref a] ∧ i < 10 ∧ Er H a (C i) fs ∧ ∀ H', Same H H' → Q (.bl true) H'
def sp_caught (C : Nat → Addr) (K : PySem.W.Frag) : Sp := fun vs H Q _ => ∃ v w, vs = [v, .int w] ∧ ∀ H', Same H H' → Q v H'
theorem g_isE {c : Cn} (T : Tx c C) {i j a : Nat} {fs : List (Str × V)} {H : Hp} {Q : VK} (hi : i < 10) (hj : j < 10) (he : Er H a (C i) fs) (q : Q (.bl (decide (j = i))) H) : rIsY c.K [.ref a, .ref (C j)] H Q :=
  .inr (.inl ⟨a, C i, fs, _, _, _, rfl, .own _, (T.cl i hi).2, he, T.kit hi hj, q⟩)
theorem g_isF {c : Cn} (T : Tx c C) {i a : Nat} {fs : List (Str × V)} {H : Hp} {Q : VK} (hi : i < 10) (he : Er H a (C i) fs) (q : Q (.bl true) H) : rIsY c.K [.ref a, .ref (C 10)] H Q :=
  .inr (.inl ⟨a, C i, fs, _, _, _, rfl, .own _, (T.cl i hi).2, he, T.kitF hi, q⟩)
theorem g_isV {c : Cn} (T : Tx c C) {i a : Nat} {fs : List (Str × V)} {H : Hp} {Q : VK} (hi : i < 10) (he : Er H a (C i) fs) (q : Q (.bl true) H) : rIsY c.K [.ref a, .ty "ValueError"] H Q :=
  .inr (.inl ⟨a, C i, fs, _, _, _, rfl, .ty _, (T.cl i hi).2, he, T.kitB hi (by decide +kernel) (by decide +kernel), q⟩)
theorem g_isO {c : Cn} (T : Tx c C) {i a p : Nat} {fs : List (Str × V)} {H : Hp} {Q : VK} (hi : i < 10) (he : Er H a (C i) fs) (hp : H p = some (.tup [.ty "LookupError", .ty "TypeError", .ty "ArithmeticError", .ty "AttributeError", .ty "RuntimeError"])) (q : Q (.bl false) H) : rIsY c.K [.ref a, .ref p] H Q :=
  .inr (.inr ⟨a, C i, fs, p, _, _, _, rfl, hp, .cons (.ty _) (.cons (.ty _) (.cons (.ty _) (.cons (.ty _) (.cons (.ty _) .nil)))), (T.cl i hi).2, he,
    kitAny_cons (T.kitB (b := false) hi (by decide +kernel) (by decide +kernel)) (fun _ => kitAny_cons (T.kitB (b := false) hi (by decide +kernel) (by decide +kernel)) (fun _ => kitAny_cons (T.kitB (b := false) hi (by decide +kernel) (by decide +kernel)) (fun _ => kitAny_cons (T.kitB (b := false) hi (by decide +kernel) (by decide +kernel)) (fun _ => kitAny_cons (T.kitB (b := false) hi (by decide +kernel) (by decide +kernel)) (fun _ => kitAny_nil) (fun z => nomatch z)) (fun z => nomatch z)) (fun z => nomatch z)) (fun z => nomatch z)) (fun z => nomatch z), q⟩)
theorem ok__law_field (c : Cn) (T : Tx c C) : Cl c 3 "_law_field" s__law_field ["quay"] (sp_field c.K) := by
  obtain ⟨P, w, K, mg, base⟩ := c
  have C__law_pick := ok__law_pick _ T
  refine De.cl (N := ["quay"]) T.d__law_field sc__law_field (fun vs H Q E h => ?_) (fun f0 cdv A outer s H vs Q E hA hr h => ?_)
  · obtain ⟨q, t, rfl, _⟩ := h; rfl
  · have S := sc__law_field
    obtain ⟨q, t, rfl, hq, ht, k⟩ := h
    refine ⟨_, (pss_one (ps_ret (pe_f C__law_pick hA hr (by decide) pl__law_pick (by rfl) (pa_cons (pv 0) (pa_cons (pe_lstS (pa_cons pe_str (pa_cons pe_str (pa_cons pe_int (pa_cons (pe_un un_neg pe_int) (pa_cons pe_non (pa_cons pe_bl (pa_cons (pe_tup (pa_cons pe_int (pa_cons pe_int pa_nil))) (pa_cons (pe_lstS (pa_cons pe_int (pa_cons (pe_lstS (pa_cons pe_int pa_nil)) pa_nil))) (pa_cons (pe_op op_pow pe_int pe_int) (pa_cons pe_str (pa_cons pe_dnewK pa_nil)))))))))))) pa_nil))))), ?_⟩
    walk_at "mf"
    refine g_newT (by show 2 ≤ sizeLine; decide) fun p1 H1 n1 s1 e1 => ?_
    walk_at "mf"
    refine g_newS (by show 1 ≤ sizeLine; decide) fun p2 H2 n2 m2 s2 e2 => ?_
    walk_at "mf"
    refine g_newS (by show 2 ≤ sizeLine; decide) fun p3 H3 n3 m3 s3 e3 => ?_
    walk_at "mf"
    refine g_dnew fun p4 H4 n4 s4 e4 => ?_
    walk_at "mf"
    refine g_newS (by show 11 ≤ sizeLine; decide) fun p5 H5 n5 m5 s5 e5 => ?_
    walk_at "mf"
    have q1 := hq.same s1
    have q2 := q1.same s2
    have q3 := q2.same s3
    have q4 := q3.same s4
    have q5 := q4.same s5
    refine ⟨q, p5, t, _, rfl, q5, ht, q4.ne n5, .inl (seqU e5), (fun z => nomatch z), (by show 11 ≤ 1000; decide), fun t' H' x sx hq' h1 h2 hx => ?_⟩
    have all : DkAll q K H5 [.str "cell", .str "", .int 5, .int (-5 + 4), .non, .bl true, .ref p1, .ref p3, .int (10 ^ (30 : Int).toNat), .str "two words", .ref p4] fieldsD := by
      refine .cons (.inl ⟨rfl, .str _ (by decide)⟩) (.cons (.inl ⟨rfl, .str _ (by decide)⟩) (.cons (.inl ⟨rfl, .int _⟩) (.cons (.inl ⟨rfl, .int _⟩) (.cons (.inl ⟨rfl, .non⟩) (.cons (.inl ⟨rfl, .bl _⟩) (.cons ?_ (.cons ?_ (.cons (.inl ⟨rfl, .int _⟩) (.cons (.inl ⟨rfl, .str _ (by decide)⟩) (.cons ?_ .nil))))))))))
      · exact .inr (.inr (.inl ⟨p1, 1, 2, rfl, rfl, hq.ne n1, s5 _ _ (s4 _ _ (s3 _ _ (s2 _ _ e1)))⟩))
      · exact .inr (.inl ⟨p3, p2, 3, 4, rfl, rfl, q2.ne n3, q1.ne n2, m3, m2, s5 _ _ (s4 _ _ e3), s5 _ _ (s4 _ _ (s3 _ _ e2))⟩)
      · exact .inr (.inr (.inr ⟨rfl, p4, rfl, q3.ne n4, s5 _ _ e4⟩))
    obtain ⟨d, hd, hk⟩ := all.mem hx
    exact k t' x d H' ((Same.x (((((s1.trans s2).trans s3).trans s4).trans s5))).trans sx) hq' h1 h2 hd (hk.go sx)
theorem ok__law_parts (c : Cn) (T : Tx c C) : Cl c 3 "_law_parts" s__law_parts ["part"] (sp_parts C c.K) := by
  obtain ⟨P, w, K, mg, base⟩ := c
  have E_BadNumber := ec_BadNumber _ T
  have E_BadMap := ec_BadMap _ T
  have E_BadLand := ec_BadLand _ T
  have E_BadPlace := ec_BadPlace _ T
  have E_BadPlacing := ec_BadPlacing _ T
  have E_BadWeights := ec_BadWeights _ T
  have E_BadPoly := ec_BadPoly _ T
  have E_Misfit := ec_Misfit _ T
  refine De.cl (N := ["part", "found"]) T.d__law_parts sc__law_parts (fun vs H Q E h => ?_) (fun f0 cdv A outer s H vs Q E hA hr h => ?_)
  · obtain ⟨v, rfl, _⟩ := h; rfl
  · have S := sc__law_parts
    obtain ⟨v, rfl, k⟩ := h
    refine ⟨_, (pss_cons (ps_set (i := 1) S.nd rfl (by first | exact .inl rfl | exact .inr rfl) (pe_lst (pa_cons (pe_mkX E_BadNumber hA hr (by decide) (by rfl) (pa_cons (pv 0) pa_nil)) (pa_cons (pe_mkXk E_BadMap hA hr (by decide) (by rfl) (pk_cons (pv 0) pk_nil)) (pa_cons (pe_mkX E_BadLand hA hr (by decide) (by rfl) (pa_cons (pv 0) pa_nil)) (pa_cons (pe_mkXk E_BadPlace hA hr (by decide) (by rfl) (pk_cons (pv 0) pk_nil)) (pa_cons (pe_mkX E_BadPlacing hA hr (by decide) (by rfl) (pa_cons (pv 0) pa_nil)) (pa_cons (pe_mkXk E_BadWeights hA hr (by decide) (by rfl) (pk_cons (pv 0) pk_nil)) (pa_cons (pe_mkX E_BadPoly hA hr (by decide) (by rfl) (pa_cons (pv 0) pa_nil)) pa_nil)))))))))
      (pss_one (ps_ret (pe_op op_addU (pv 1) (pe_lst (pa_cons (pe_mkXk E_Misfit hA hr (by decide) (by rfl) (pk_cons (pv 0) pk_nil)) pa_nil)))))), ?_⟩
    walk_at "mf"
    refine ⟨rfl, fun a0 G0 n0 s0 r0 => ?_⟩
    walk_at "mf"
    refine ⟨rfl, fun a1 G1 n1 s1 r1 => ?_⟩
    walk_at "mf"
    refine ⟨rfl, fun a2 G2 n2 s2 r2 => ?_⟩
    walk_at "mf"
    refine ⟨rfl, fun a3 G3 n3 s3 r3 => ?_⟩
    walk_at "mf"
    refine ⟨rfl, fun a4 G4 n4 s4 r4 => ?_⟩
    walk_at "mf"
    refine ⟨rfl, fun a5 G5 n5 s5 r5 => ?_⟩
    walk_at "mf"
    refine ⟨rfl, fun a6 G6 n6 s6 r6 => ?_⟩
    walk_at "mf"
    refine g_newL (by show 7 ≤ sizeLine; decide) fun p1 H1 n1 t1 e1 => ?_
    walk_at "mf"
    refine ⟨rfl, fun a7 G7 n7 s7 r7 => ?_⟩
    walk_at "mf"
    refine g_newL (by show 1 ≤ sizeLine; decide) fun p2 H2 n2 t2 e2 => ?_
    walk_at "mf"
    refine g_cat (t2 _ _ (s7 _ _ e1)) e2 (by show 7 + 1 ≤ sizeLine; decide) fun p3 H3 n3 t3 e3 => ?_
    have u7 := t2.trans t3
    have u6 := (t1.trans s7).trans u7
    have u5 := s6.trans u6
    have u4 := s5.trans u5
    have u3 := s4.trans u4
    have u2 := s3.trans u3
    have u1 := s2.trans u2
    have u0 := s1.trans u1
    have ua := s0.trans u0
    have nn : H p3 = none := by
      cases z : H p3 with
      | none => rfl
      | some o =>
        have y := ((s0.trans (s1.trans (s2.trans (s3.trans (s4.trans (s5.trans (s6.trans (t1.trans (s7.trans t2))))))))) _ _ z)
        rw [n3] at y
        cases y
    exact k p3 _ H3 ua nn e3 rfl (.cons (r0.go u0) (.cons (r1.go u1) (.cons (r2.go u2) (.cons (r3.go u3) (.cons (r4.go u4) (.cons (r5.go u5) (.cons (r6.go u6) (.cons (r7.go u7) (.nil _)))))))))
theorem ok__law_which (c : Cn) (T : Tx c C) : Cl c 1 "_law_which" s__law_which ["error"] (sp_which C c.K) := by
  obtain ⟨P, w, K, mg, base⟩ := c
  refine De.cl (N := ["error", "found"]) T.d__law_which sc__law_which (fun vs H Q E h => ?_) (fun f0 cdv A outer s H vs Q E hA hr h => ?_)
  · obtain ⟨a, i, fs, rfl, _⟩ := h; rfl
  · have S := sc__law_which
    obtain ⟨a, i, fs, rfl, hi, he, k⟩ := h
    refine ⟨_, (pss_cons (ps_set (i := 1) S.nd rfl (by first | exact .inl rfl | exact .inr rfl) (pe_lst (pa_cons (pe_callB call_isY (by rfl) T.n_isinstance (show bootBuiltins "isinstance" = some (.builtin "isinstance") by decide +kernel) (pa_cons (pv 0) (pa_cons (pe_glob (v := .ref (C 0)) (by rfl) T.q_BadNumber.mg rfl) pa_nil))) (pa_cons (pe_callB call_isY (by rfl) T.n_isinstance (show bootBuiltins "isinstance" = some (.builtin "isinstance") by decide +kernel) (pa_cons (pv 0) (pa_cons (pe_glob (v := .ref (C 1)) (by rfl) T.q_BadMap.mg rfl) pa_nil))) (pa_cons (pe_callB call_isY (by rfl) T.n_isinstance (show bootBuiltins "isinstance" = some (.builtin "isinstance") by decide +kernel) (pa_cons (pv 0) (pa_cons (pe_glob (v := .ref (C 2)) (by rfl) T.q_BadLand.mg rfl) pa_nil))) (pa_cons (pe_callB call_isY (by rfl) T.n_isinstance (show bootBuiltins "isinstance" = some (.builtin "isinstance") by decide +kernel) (pa_cons (pv 0) (pa_cons (pe_glob (v := .ref (C 3)) (by rfl) T.q_BadPlace.mg rfl) pa_nil))) pa_nil))))))
      (pss_cons (ps_set (i := 1) S.nd rfl (by first | exact .inl rfl | exact .inr rfl) (pe_op op_addU (pv 1) (pe_lst (pa_cons (pe_callB call_isY (by rfl) T.n_isinstance (show bootBuiltins "isinstance" = some (.builtin "isinstance") by decide +kernel) (pa_cons (pv 0) (pa_cons (pe_glob (v := .ref (C 4)) (by rfl) T.q_BadPlacing.mg rfl) pa_nil))) (pa_cons (pe_callB call_isY (by rfl) T.n_isinstance (show bootBuiltins "isinstance" = some (.builtin "isinstance") by decide +kernel) (pa_cons (pv 0) (pa_cons (pe_glob (v := .ref (C 5)) (by rfl) T.q_BadWeights.mg rfl) pa_nil))) (pa_cons (pe_callB call_isY (by rfl) T.n_isinstance (show bootBuiltins "isinstance" = some (.builtin "isinstance") by decide +kernel) (pa_cons (pv 0) (pa_cons (pe_glob (v := .ref (C 6)) (by rfl) T.q_BadPoly.mg rfl) pa_nil))) pa_nil))))))
      (pss_one (ps_ret (pe_op op_addU (pv 1) (pe_lst (pa_cons (pe_callB call_isY (by rfl) T.n_isinstance (show bootBuiltins "isinstance" = some (.builtin "isinstance") by decide +kernel) (pa_cons (pv 0) (pa_cons (pe_glob (v := .ref (C 7)) (by rfl) T.q_Misfit.mg rfl) pa_nil))) (pa_cons (pe_callB call_isY (by rfl) T.n_isinstance (show bootBuiltins "isinstance" = some (.builtin "isinstance") by decide +kernel) (pa_cons (pv 0) (pa_cons (pe_glob (v := .ref (C 8)) (by rfl) T.q_TooMany.mg rfl) pa_nil))) (pa_cons (pe_callB call_isY (by rfl) T.n_isinstance (show bootBuiltins "isinstance" = some (.builtin "isinstance") by decide +kernel) (pa_cons (pv 0) (pa_cons (pe_glob (v := .ref (C 9)) (by rfl) T.q_BadText.mg rfl) pa_nil))) pa_nil))))))))), ?_⟩
    walk_at "mf"
    refine g_isE T hi (by decide) he ?_
    walk_at "mf"
    refine g_isE T hi (by decide) he ?_
    walk_at "mf"
    refine g_isE T hi (by decide) he ?_
    walk_at "mf"
    refine g_isE T hi (by decide) he ?_
    walk_at "mf"
    refine g_newL (by show 4 ≤ sizeLine; decide) fun p1 H1 n1 t1 e1 => ?_
    have he1 := he.go t1
    walk_at "mf"
    refine g_isE T hi (by decide) he1 ?_
    walk_at "mf"
    refine g_isE T hi (by decide) he1 ?_
    walk_at "mf"
    refine g_isE T hi (by decide) he1 ?_
    walk_at "mf"
    refine g_newL (by show 3 ≤ sizeLine; decide) fun p2 H2 n2 t2 e2 => ?_
    walk_at "mf"
    refine g_cat (t2 _ _ e1) e2 (by show 4 + 3 ≤ sizeLine; decide) fun p3 H3 n3 t3 e3 => ?_
    have he2 := he1.go (t2.trans t3)
    walk_at "mf"
    refine g_isE T hi (by decide) he2 ?_
    walk_at "mf"
    refine g_isE T hi (by decide) he2 ?_
    walk_at "mf"
    refine g_isE T hi (by decide) he2 ?_
    walk_at "mf"
    refine g_newL (by show 3 ≤ sizeLine; decide) fun p4 H4 n4 t4 e4 => ?_
    walk_at "mf"
    refine g_cat (t4 _ _ e3) e4 (by show 7 + 3 ≤ sizeLine; decide) fun p5 H5 n5 t5 e5 => ?_
    exact k p5 H5 ((t1.trans (t2.trans t3)).trans (t4.trans t5)) e5
theorem ok__law_is_plain (c : Cn) (T : Tx c C) : Cl c 1 "_law_is_plain" s__law_is_plain ["error"] (sp_plain C c.K) := by
  obtain ⟨P, w, K, mg, base⟩ := c
  refine De.cl (N := ["error"]) T.d__law_is_plain sc__law_is_plain (fun vs H Q E h => ?_) (fun f0 cdv A outer s H vs Q E hA hr h => ?_)
  · obtain ⟨a, i, fs, rfl, _⟩ := h; rfl
  · have S := sc__law_is_plain
    obtain ⟨a, i, fs, rfl, hi, he, k⟩ := h
    refine ⟨_, (pss_cons (ps_if (PW.pt (pw_or (pt_not (pt_val (pe_callB call_isY (by rfl) T.n_isinstance (show bootBuiltins "isinstance" = some (.builtin "isinstance") by decide +kernel) (pa_cons (pv 0) (pa_cons (pe_glob (v := .ref (C 10)) (by rfl) T.f_flow rfl) pa_nil))))) (pw_or1 (pt_not (pt_val (pe_callB call_isY (by rfl) T.n_isinstance (show bootBuiltins "isinstance" = some (.builtin "isinstance") by decide +kernel) (pa_cons (pv 0) (pa_cons (pe_bltn (v := .ty "ValueError") (by rfl) T.n_ValueError (show bootBuiltins "ValueError" = some (.type "ValueError") by decide +kernel) rfl) pa_nil)))))))) (pss_one (ps_ret pe_bl)) pss_nil)
      (pss_one (ps_ret (pe_not (pe_callB call_isY (by rfl) T.n_isinstance (show bootBuiltins "isinstance" = some (.builtin "isinstance") by decide +kernel) (pa_cons (pv 0) (pa_cons (pe_tup (pa_cons (pe_bltn (v := .ty "LookupError") (by rfl) T.n_LookupError (show bootBuiltins "LookupError" = some (.type "LookupError") by decide +kernel) rfl) (pa_cons (pe_bltn (v := .ty "TypeError") (by rfl) T.n_TypeError (show bootBuiltins "TypeError" = some (.type "TypeError") by decide +kernel) rfl) (pa_cons (pe_bltn (v := .ty "ArithmeticError") (by rfl) T.n_ArithmeticError (show bootBuiltins "ArithmeticError" = some (.type "ArithmeticError") by decide +kernel) rfl) (pa_cons (pe_bltn (v := .ty "AttributeError") (by rfl) T.n_AttributeError (show bootBuiltins "AttributeError" = some (.type "AttributeError") by decide +kernel) rfl) (pa_cons (pe_bltn (v := .ty "RuntimeError") (by rfl) T.n_RuntimeError (show bootBuiltins "RuntimeError" = some (.type "RuntimeError") by decide +kernel) rfl) pa_nil)))))) pa_nil))))))), ?_⟩
    walk_at "mf"
    refine g_isF T hi he ?_
    walk_at "mf"
    refine g_isV T hi he ?_
    walk_at "mf"
    refine g_newT (by show 5 ≤ sizeLine; decide) fun p1 H1 n1 t1 e1 => ?_
    walk_at "mf"
    refine g_isO T hi (he.go t1) e1 ?_
    walk_at "mf"
    exact k H1 t1
end Mf
namespace Mf
open PySem PySem.Spec PyProof.Rows L2
local macro_rules | `(tactic| walk_at "mf1") => `(tactic| first
  | ((with_reducible apply g_var); exact rfl)
  | with_reducible first
    | refine g_c ?_ | refine g_op ?_ | refine g_un ?_ | refine g_cb ?_ | refine g_cl ?_ | refine g_clk ?_ | refine g_nil ?_ | refine g_cons ?_
    | refine g_tB ?_ | refine g_test ?_ | refine g_bl ?_ | refine g_and ?_ | refine g_or ?_ | refine g_not ?_ | refine g_andV ?_ | refine g_orV ?_ | refine g_notV ?_
    | refine g_if ?_ | refine g_ifS ?_ | refine g_seq ?_ | refine g_next ?_ | refine g_ret ?_ | refine g_drop ?_ | refine g_asg ?_ | refine g_name ?_ | refine g_sub ?_
    | refine g_int ?_ | refine g_intB ?_ | refine g_abs ?_ | refine g_I0 ?_ | refine g_addI ?_ | refine g_U ?_ | refine g_isNn ?_ | refine g_isNi ?_ | refine g_notN ?_ | refine g_notT1 ?_ | refine g_notT2 ?_ | refine g_notT3 ?_ | refine g_notT4 ?_ | refine g_notTb ?_ | refine g_notTi ?_ | refine g_eqI ?_ | refine g_neI ?_ | refine g_neSs ?_ | refine g_neS ?_ | refine g_eqS ?_
    | refine g_iteT ?_ | refine g_iteF ?_ | refine g_iteNT ?_ | refine g_iteNF ?_ | refine g_lst ?_ | refine g_lstS ?_ | refine g_xat ?_ | refine g_mkX ?_ | refine g_mkXk ?_ | refine g_tup ?_ | refine g_seqP ?_ | refine g_sl ?_ | refine g_noPart ?_ | refine g_part ?_ | refine g_yes ?_ | refine g_thenT ?_ | refine g_consG ?_ | refine g_nilG ?_ | refine g_ii ?_ | refine g_par ?_ | refine g_par3 ?_ | refine g_vv ?_ | refine g_vvv ?_ | refine g_reprB ?_ | refine g_lcL ?_ | refine g_lcR ?_
  | ((with_reducible refine g_mod ?_ ?_); (first | omega | decide))
  | ((with_reducible refine g_div ?_ ?_ ?_); (first | omega | decide); (first | assumption | decide))
  | ((with_reducible refine g_mulL ?_ ?_ ?_); (first | omega | decide); (first | omega | decide))
  | ((with_reducible refine g_mulR ?_ ?_ ?_); (first | omega | decide); (first | omega | decide))
  | ((with_reducible refine g_pow ?_ ?_ ?_ ?_); decide; decide; (first | omega | decide))
  | dsimp only)
local macro_rules | `(tactic| walk_at "mf1s") => `(tactic| first
  | ((with_reducible apply g_var); exact rfl)
  | with_reducible first
    | refine g_c ?_ | refine g_op ?_ | refine g_un ?_ | refine g_cb ?_ | refine g_cl ?_ | refine g_clk ?_ | refine g_nil ?_ | refine g_cons ?_
    | refine g_tB ?_ | refine g_test ?_ | refine g_bl ?_ | refine g_and ?_ | refine g_or ?_ | refine g_not ?_ | refine g_andV ?_ | refine g_orV ?_ | refine g_notV ?_
    | refine g_if ?_ | refine g_ifS ?_ | refine g_next ?_ | refine g_ret ?_ | refine g_drop ?_ | refine g_asg ?_ | refine g_name ?_ | refine g_sub ?_
    | refine g_int ?_ | refine g_intB ?_ | refine g_abs ?_ | refine g_I0 ?_ | refine g_addI ?_ | refine g_U ?_ | refine g_isNn ?_ | refine g_isNi ?_ | refine g_notN ?_ | refine g_notT1 ?_ | refine g_notT2 ?_ | refine g_notT3 ?_ | refine g_notT4 ?_ | refine g_notTb ?_ | refine g_notTi ?_ | refine g_eqI ?_ | refine g_neI ?_ | refine g_neSs ?_ | refine g_neS ?_ | refine g_eqS ?_
    | refine g_iteT ?_ | refine g_iteF ?_ | refine g_iteNT ?_ | refine g_iteNF ?_ | refine g_lst ?_ | refine g_lstS ?_ | refine g_xat ?_ | refine g_mkX ?_ | refine g_mkXk ?_ | refine g_tup ?_ | refine g_seqP ?_ | refine g_sl ?_ | refine g_noPart ?_ | refine g_part ?_ | refine g_yes ?_ | refine g_thenT ?_ | refine g_consG ?_ | refine g_nilG ?_ | refine g_ii ?_ | refine g_par ?_ | refine g_par3 ?_ | refine g_vv ?_ | refine g_vvv ?_ | refine g_reprB ?_ | refine g_lcL ?_ | refine g_lcR ?_
  | ((with_reducible refine g_mod ?_ ?_); (first | omega | decide))
  | ((with_reducible refine g_div ?_ ?_ ?_); (first | omega | decide); (first | assumption | decide))
  | ((with_reducible refine g_mulL ?_ ?_ ?_); (first | omega | decide); (first | omega | decide))
  | ((with_reducible refine g_mulR ?_ ?_ ?_); (first | omega | decide); (first | omega | decide))
  | ((with_reducible refine g_pow ?_ ?_ ?_ ?_); decide; decide; (first | omega | decide))
  | dsimp only)
local macro_rules | `(tactic| walk_at "mfs") => `(tactic| repeat walk_at "mf1s")
local macro_rules | `(tactic| walk_at "mf") => `(tactic| repeat walk_at "mf1")
local macro_rules | `(tactic| walk_at "ed") => `(tactic| repeat (first
  | with_reducible first
    | exact eds_nil | apply eds_cons | exact ed_int | exact ed_bl | exact ed_non | apply ed_neg
  | ((with_reducible apply ed_str); decide)
  | ((with_reducible apply ed_var); (exact rfl); (first | assumption | exact Dq.int _))
  | ((with_reducible apply ed_dict0); assumption)
  | ((with_reducible apply ed_dict2); assumption)
  | ((with_reducible apply ed_tup); assumption)
  | ((with_reducible apply ed_lst); assumption)
  | (with_reducible apply ed_pow)
  | (with_reducible apply ed_mul)
  | assumption
  | (exact Dq.int _)
  | (exact ⟨by decide, by decide, by decide⟩)
  | (show List.length _ ≤ 1000; simp only [List.length_cons, List.length_nil]; decide)))
variable {C : Nat → Addr}
theorem ok__law_caught (c : Cn) (T : Tx c C) : Cl c 3 "_law_caught" s__law_caught ["part", "way"] (sp_caught C c.K) := by
  obtain ⟨P, w, K, mg, base⟩ := c
  refine De.cl (N := ["part", "way", "caught"]) T.d__law_caught sc__law_caught (fun vs H Q E h => ?_) (fun f0 cdv A outer s H vs Q E hA hr h => ?_)
  · obtain ⟨v, w, rfl, _⟩ := h; rfl
  · have S := sc__law_caught
    obtain ⟨v, w0, rfl, k⟩ := h
    have E_BadPlace := ec_BadPlace _ T
    have E_Misfit := ec_Misfit _ T
    have E_BadPoly := ec_BadPoly _ T
    refine ⟨_, (pss_one (ps_try_as (i := 2) (tb := fun W => tSeq (tIfS (tTest (tOp (rEqU K) (tVar 1) (tC (.int 0)))) (fun _ σ H => tMkR (C 3) ["part"] (tCons (tVar 0) tNil) σ H fun cls d H' => W cls d σ H') tNext) (tSeq (tIfS (tTest (tOp (rEqU K) (tVar 1) (tC (.int 1)))) (fun _ σ H => tMkRk (C 7) ["part"] (tCons (tVar 0) tNil) σ H fun cls d H' => W cls d σ H') tNext) (fun _ σ H => tMkR (C 6) ["part"] (tCons (tVar 0) tNil) σ H fun cls d H' => W cls d σ H'))) (ts := fun a cls d => tRet (tByX K a cls d "part" (tVar 2))) (Wout := fun _ _ _ _ => False) rfl rfl S.nd rfl rfl ⟨rfl, by decide, Or.inl T.f_flow⟩ takes0
      (fun W pn xe tk _ => pss_cons (ps_if (pt_cmpR (op_eqU hr.units) (pv 1) pe_int (nomark _)) (pss_one (ps_raise rfl tk (pmk_mkX E_BadPlace hA hr (by decide) (by rfl) (pa_cons (pv 0) pa_nil)))) pss_nil)
        (pss_cons (ps_if (pt_cmpR (op_eqU hr.units) (pv 1) pe_int (nomark _)) (pss_one (ps_raise rfl tk (pmk_mkXk E_Misfit hA hr (by decide) (by rfl) (pk_cons (pv 0) pk_nil)))) pss_nil)
        (pss_one (ps_raise rfl tk (pmk_mkX E_BadPoly hA hr (by decide) (by rfl) (pa_cons (pv 0) pa_nil))))))
      (fun a oe cls d pn hz hf => pss_one (ps_ret (pe_byX hz hf (pv 2)))))), ?_⟩
    have go : ∀ (i : Nat) (hi : i < 10) (hno : PySem.W.findIn K (.ref (C i)) "part" = some none) (d : Addr) (H2 : Hp), H d = none → Same H H2 → H2 d = some (.xd [("part", v)]) → wAs K (.ref (C 10)) 2 (fun a cls d => tRet (tByX K a cls d "part" (tVar 2))) (fun _ _ _ _ => False) { nx := fun _ H' => Q .non H', rt := Q } (.ref (C i)) (some d) [some v, some (.int w0), none] H2 := by
      intro i hi hno d H2 hd s2 e2
      refine ⟨true, exm_of (T.cl i hi).1 T.g_flow, fun _ a ha => ?_, fun z => nomatch z⟩
      refine g_ret ?_
      refine g_var (v := .ref a) rfl ?_
      exact ⟨rfl, C i, d, _, v, rfl, (T.cl i hi).2, hno, rfl, e2, rfl, k H2 s2⟩
    walk_at "mf"
    refine g_ite (fun h0 => ?_) (fun h0 => ?_)
    · refine g_var (v := v) rfl ⟨rfl, fun d H2 hd s2 e2 => ?_⟩
      exact go 3 (by decide) (T.q_BadPlace.no _ (List.mem_cons_self ..)) d H2 hd s2 e2
    · walk_at "mf"
      refine g_ite (fun h1 => ?_) (fun h1 => ?_)
      · refine g_var (v := v) rfl ⟨rfl, fun d H2 hd s2 e2 => ?_⟩
        exact go 7 (by decide) (T.q_Misfit.no _ (List.mem_cons_self ..)) d H2 hd s2 e2
      · walk_at "mf"
        refine g_var (v := v) rfl ⟨rfl, fun d H2 hd s2 e2 => ?_⟩
        exact go 6 (by decide) (T.q_BadPoly.no _ (List.mem_cons_self ..)) d H2 hd s2 e2
end Mf
namespace Mf
open PySem PySem.Spec PyProof.Rows L2
local macro_rules | `(tactic| walk_at "mf1") => `(tactic| first
  | ((with_reducible apply g_var); exact rfl)
  | with_reducible first
    | refine g_c ?_ | refine g_op ?_ | refine g_un ?_ | refine g_cb ?_ | refine g_cl ?_ | refine g_clk ?_ | refine g_nil ?_ | refine g_cons ?_
    | refine g_tB ?_ | refine g_test ?_ | refine g_bl ?_ | refine g_and ?_ | refine g_or ?_ | refine g_not ?_ | refine g_andV ?_ | refine g_orV ?_ | refine g_notV ?_
    | refine g_if ?_ | refine g_ifS ?_ | refine g_seq ?_ | refine g_next ?_ | refine g_ret ?_ | refine g_drop ?_ | refine g_asg ?_ | refine g_name ?_ | refine g_sub ?_
    | refine g_int ?_ | refine g_intB ?_ | refine g_abs ?_ | refine g_I0 ?_ | refine g_addI ?_ | refine g_U ?_ | refine g_isNn ?_ | refine g_isNi ?_ | refine g_notN ?_ | refine g_notT1 ?_ | refine g_notT2 ?_ | refine g_notT3 ?_ | refine g_notT4 ?_ | refine g_notTb ?_ | refine g_notTi ?_ | refine g_eqI ?_ | refine g_neI ?_ | refine g_neSs ?_ | refine g_neS ?_ | refine g_eqS ?_
    | refine g_iteT ?_ | refine g_iteF ?_ | refine g_iteNT ?_ | refine g_iteNF ?_ | refine g_lst ?_ | refine g_lstS ?_ | refine g_xat ?_ | refine g_mkX ?_ | refine g_mkXk ?_ | refine g_tup ?_ | refine g_seqP ?_ | refine g_sl ?_ | refine g_noPart ?_ | refine g_part ?_ | refine g_yes ?_ | refine g_thenT ?_ | refine g_consG ?_ | refine g_nilG ?_ | refine g_ii ?_ | refine g_par ?_ | refine g_par3 ?_ | refine g_vv ?_ | refine g_vvv ?_ | refine g_reprB ?_ | refine g_lcL ?_ | refine g_lcR ?_
  | ((with_reducible refine g_mod ?_ ?_); (first | omega | decide))
  | ((with_reducible refine g_div ?_ ?_ ?_); (first | omega | decide); (first | assumption | decide))
  | ((with_reducible refine g_mulL ?_ ?_ ?_); (first | omega | decide); (first | omega | decide))
  | ((with_reducible refine g_mulR ?_ ?_ ?_); (first | omega | decide); (first | omega | decide))
  | ((with_reducible refine g_pow ?_ ?_ ?_ ?_); decide; decide; (first | omega | decide))
  | dsimp only)
local macro_rules | `(tactic| walk_at "mf1s") => `(tactic| first
  | ((with_reducible apply g_var); exact rfl)
  | with_reducible first
    | refine g_c ?_ | refine g_op ?_ | refine g_un ?_ | refine g_cb ?_ | refine g_cl ?_ | refine g_clk ?_ | refine g_nil ?_ | refine g_cons ?_
    | refine g_tB ?_ | refine g_test ?_ | refine g_bl ?_ | refine g_and ?_ | refine g_or ?_ | refine g_not ?_ | refine g_andV ?_ | refine g_orV ?_ | refine g_notV ?_
    | refine g_if ?_ | refine g_ifS ?_ | refine g_next ?_ | refine g_ret ?_ | refine g_drop ?_ | refine g_asg ?_ | refine g_name ?_ | refine g_sub ?_
    | refine g_int ?_ | refine g_intB ?_ | refine g_abs ?_ | refine g_I0 ?_ | refine g_addI ?_ | refine g_U ?_ | refine g_isNn ?_ | refine g_isNi ?_ | refine g_notN ?_ | refine g_notT1 ?_ | refine g_notT2 ?_ | refine g_notT3 ?_ | refine g_notT4 ?_ | refine g_notTb ?_ | refine g_notTi ?_ | refine g_eqI ?_ | refine g_neI ?_ | refine g_neSs ?_ | refine g_neS ?_ | refine g_eqS ?_
    | refine g_iteT ?_ | refine g_iteF ?_ | refine g_iteNT ?_ | refine g_iteNF ?_ | refine g_lst ?_ | refine g_lstS ?_ | refine g_xat ?_ | refine g_mkX ?_ | refine g_mkXk ?_ | refine g_tup ?_ | refine g_seqP ?_ | refine g_sl ?_ | refine g_noPart ?_ | refine g_part ?_ | refine g_yes ?_ | refine g_thenT ?_ | refine g_consG ?_ | refine g_nilG ?_ | refine g_ii ?_ | refine g_par ?_ | refine g_par3 ?_ | refine g_vv ?_ | refine g_vvv ?_ | refine g_reprB ?_ | refine g_lcL ?_ | refine g_lcR ?_
  | ((with_reducible refine g_mod ?_ ?_); (first | omega | decide))
  | ((with_reducible refine g_div ?_ ?_ ?_); (first | omega | decide); (first | assumption | decide))
  | ((with_reducible refine g_mulL ?_ ?_ ?_); (first | omega | decide); (first | omega | decide))
  | ((with_reducible refine g_mulR ?_ ?_ ?_); (first | omega | decide); (first | omega | decide))
  | ((with_reducible refine g_pow ?_ ?_ ?_ ?_); decide; decide; (first | omega | decide))
  | dsimp only)
local macro_rules | `(tactic| walk_at "mfs") => `(tactic| repeat walk_at "mf1s")
local macro_rules | `(tactic| walk_at "mf") => `(tactic| repeat walk_at "mf1")
local macro_rules | `(tactic| walk_at "ed") => `(tactic| repeat (first
  | with_reducible first
    | exact eds_nil | apply eds_cons | exact ed_int | exact ed_bl | exact ed_non | apply ed_neg
  | ((with_reducible apply ed_str); decide)
  | ((with_reducible apply ed_var); (exact rfl); (first | assumption | exact Dq.int _))
  | ((with_reducible apply ed_dict0); assumption)
  | ((with_reducible apply ed_dict2); assumption)
  | ((with_reducible apply ed_tup); assumption)
  | ((with_reducible apply ed_lst); assumption)
  | (with_reducible apply ed_pow)
  | (with_reducible apply ed_mul)
  | assumption
  | (exact Dq.int _)
  | (exact ⟨by decide, by decide, by decide⟩)
  | (show List.length _ ≤ 1000; simp only [List.length_cons, List.length_nil]; decide)))
variable {C : Nat → Addr}

theorem bl10 : ∀ i, i < 10 → PyData.eqv (.list (((List.range 10).map fun j => decide (j = i)).map PyData.bool)) (.list (((List.range 10).map fun j => decide (j = i)).map PyData.bool)) = true := by decide +kernel
theorem sh10 : ∀ i, i < 10 → SeqAt.shaped (.list (((List.range 10).map fun j => decide (j = i)).map PyData.bool)) = true := by decide +kernel
theorem dpB {K : PySem.W.Frag} {H : Hp} : ∀ bs : List Bool, DpAll K H (bs.map V.bl) (bs.map PyData.bool)
  | [] => .nil
  | b :: bs => .cons (.bl b) (dpB bs)
def L10 (i : Nat) : List V := (List.range 10).map fun j => V.bl (decide (j = i))
theorem g_neBB {K : PySem.W.Frag} {H : Hp} {Q : VK} {p r i : Nat} (hi : i < 10) (hp : H p = some (.lst (L10 i))) (hr : H r = some (.lst (L10 i))) (q : Q (.bl false) H) : rNeU K (.ref p) (.ref r) H Q := by
  have e : L10 i = ((List.range 10).map fun j => decide (j = i)).map V.bl := by
    unfold L10
    rw [List.map_map]
    rfl
  rw [e] at hp hr
  refine .inr ⟨.list (((List.range 10).map fun j => decide (j = i)).map PyData.bool), .list (((List.range 10).map fun j => decide (j = i)).map PyData.bool), .lst (seqU hp) (dpB _), .lst (seqU hr) (dpB _), sh10 i hi, sh10 i hi, ?_⟩
  rw [bl10 i hi]
  exact q
theorem Tx.np {c : Cn} (T : Tx c C) : ∀ i, i < 8 → PySem.W.findIn c.K (.ref (C i)) "part" = some none
  | 0, _ => T.q_BadNumber.no _ (List.mem_cons_self ..)
  | 1, _ => T.q_BadMap.no _ (List.mem_cons_self ..)
  | 2, _ => T.q_BadLand.no _ (List.mem_cons_self ..)
  | 3, _ => T.q_BadPlace.no _ (List.mem_cons_self ..)
  | 4, _ => T.q_BadPlacing.no _ (List.mem_cons_self ..)
  | 5, _ => T.q_BadWeights.no _ (List.mem_cons_self ..)
  | 6, _ => T.q_BadPoly.no _ (List.mem_cons_self ..)
  | 7, _ => T.q_Misfit.no _ (List.mem_cons_self ..)
  | n + 8, h => absurd h (by omega)
theorem g_xp {c : Cn} (T : Tx c C) {i a : Nat} {v : V} {H : Hp} {Q : VK} (hi : i < 8) (e : Er H a (C i) [("part", v)]) (q : Q v H) : XAt c.K "part" (.ref a) H Q :=
  ⟨a, C i, _, v, rfl, (T.cl i (by omega)).2, T.np i hi, e, by simp [List.lookup], q⟩
theorem g_x8 {c : Cn} (T : Tx c C) {a : Nat} {v u : V} {H : Hp} {Q : VK} (e : Er H a (C 8) [("most", u), ("what", v)]) : (Q v H → XAt c.K "what" (.ref a) H Q) ∧ (Q u H → XAt c.K "most" (.ref a) H Q) :=
  ⟨fun q => ⟨a, C 8, _, v, rfl, (T.cl 8 (by decide)).2, T.q_TooMany.no _ (List.mem_cons_self ..), e, by simp [List.lookup, show (Str.ofString "what" == Str.ofString "most") = false by decide +kernel], q⟩, fun q => ⟨a, C 8, _, u, rfl, (T.cl 8 (by decide)).2, T.q_TooMany.no _ (List.mem_cons_of_mem _ (List.mem_cons_self ..)), e, by simp [List.lookup], q⟩⟩
theorem g_x9 {c : Cn} (T : Tx c C) {a : Nat} {v u : V} {H : Hp} {Q : VK} (e : Er H a (C 9) [("item", u), ("line", v)]) : (Q v H → XAt c.K "line" (.ref a) H Q) ∧ (Q u H → XAt c.K "item" (.ref a) H Q) :=
  ⟨fun q => ⟨a, C 9, _, v, rfl, (T.cl 9 (by decide)).2, T.q_BadText.no _ (List.mem_cons_self ..), e, by simp [List.lookup, show (Str.ofString "line" == Str.ofString "item") = false by decide +kernel], q⟩, fun q => ⟨a, C 9, _, u, rfl, (T.cl 9 (by decide)).2, T.q_BadText.no _ (List.mem_cons_of_mem _ (List.mem_cons_self ..)), e, by simp [List.lookup], q⟩⟩
theorem fieldsOk : ∀ d ∈ fieldsD, d.showable = true ∧ d.depth ≤ 60 ∧ d.shown.length ≤ 100 := by decide +kernel
theorem fields4 : ∀ d ∈ fieldsD, ∀ e ∈ fieldsD, (PyData.list [d, e, d, e]).showable = true ∧ (PyData.list [d, e, d, e]).depth ≤ 60 ∧ (PyData.list [d, e, d, e]).shown.length ≤ 1000 := by decide +kernel
theorem g_enum {K : PySem.W.Frag} {j : Nat} {g : TG} {tb : TS} {D : Ends} {σ : L2.St} {H : Hp} {a : Addr} {xs : List V} (e : σ[j]? = some (some (.ref a))) (hS : SqL K H a xs) (Pv : Nat → L2.St → Hp → Prop) (h0 : Pv 0 σ H) (hG : ∀ i σ H, i ≤ xs.length → Pv i σ H → SqL K H a xs)
    (hs : ∀ i T x σ H, i < xs.length → Pv i σ H → H T = none → xs[i]? = some x → g (.ref T) σ (upd H T (.tup [.int (i : Nat), x])) fun σ2 H2 => tb { D with nx := Pv (i + 1), ct := Pv (i + 1), bk := D.nx } σ2 H2) (hd : ∀ σ H, Pv xs.length σ H → D.nx σ H) :
    tFor (iEnum K (tCons (tVar j) tNil)) g tb D σ H := by
  unfold tFor iEnum
  refine g_cons ?_
  refine g_var e ?_
  refine g_nil ?_
  refine ⟨a, xs, rfl, hS, for_it walk_enum Pv h0 hG (fun i x σ H H' hi hp hY => ?_) hd⟩
  obtain ⟨T, va, vb, rfl, nT, rfl, ea, eb⟩ := hY
  cases ea
  exact hs i T vb σ H hi hp nT eb
end Mf
namespace Mf
open PySem PySem.Spec PyProof.Rows L2
local macro_rules | `(tactic| walk_at "mf1") => `(tactic| first
  | ((with_reducible apply g_var); exact rfl)
  | with_reducible first
    | refine g_c ?_ | refine g_op ?_ | refine g_un ?_ | refine g_cb ?_ | refine g_cl ?_ | refine g_clk ?_ | refine g_nil ?_ | refine g_cons ?_
    | refine g_tB ?_ | refine g_test ?_ | refine g_bl ?_ | refine g_and ?_ | refine g_or ?_ | refine g_not ?_ | refine g_andV ?_ | refine g_orV ?_ | refine g_notV ?_
    | refine g_if ?_ | refine g_ifS ?_ | refine g_seq ?_ | refine g_next ?_ | refine g_ret ?_ | refine g_drop ?_ | refine g_asg ?_ | refine g_name ?_ | refine g_sub ?_
    | refine g_int ?_ | refine g_intB ?_ | refine g_abs ?_ | refine g_I0 ?_ | refine g_addI ?_ | refine g_U ?_ | refine g_isNn ?_ | refine g_isNi ?_ | refine g_notN ?_ | refine g_notT1 ?_ | refine g_notT2 ?_ | refine g_notT3 ?_ | refine g_notT4 ?_ | refine g_notTb ?_ | refine g_notTi ?_ | refine g_eqI ?_ | refine g_neI ?_ | refine g_neSs ?_ | refine g_neS ?_ | refine g_eqS ?_
    | refine g_iteT ?_ | refine g_iteF ?_ | refine g_iteNT ?_ | refine g_iteNF ?_ | refine g_lst ?_ | refine g_lstS ?_ | refine g_xat ?_ | refine g_mkX ?_ | refine g_mkXk ?_ | refine g_tup ?_ | refine g_seqP ?_ | refine g_sl ?_ | refine g_noPart ?_ | refine g_part ?_ | refine g_yes ?_ | refine g_thenT ?_ | refine g_consG ?_ | refine g_nilG ?_ | refine g_ii ?_ | refine g_par ?_ | refine g_par3 ?_ | refine g_vv ?_ | refine g_vvv ?_ | refine g_reprB ?_ | refine g_lcL ?_ | refine g_lcR ?_
  | ((with_reducible refine g_mod ?_ ?_); (first | omega | decide))
  | ((with_reducible refine g_div ?_ ?_ ?_); (first | omega | decide); (first | assumption | decide))
  | ((with_reducible refine g_mulL ?_ ?_ ?_); (first | omega | decide); (first | omega | decide))
  | ((with_reducible refine g_mulR ?_ ?_ ?_); (first | omega | decide); (first | omega | decide))
  | ((with_reducible refine g_pow ?_ ?_ ?_ ?_); decide; decide; (first | omega | decide))
  | dsimp only)
local macro_rules | `(tactic| walk_at "mf1s") => `(tactic| first
  | ((with_reducible apply g_var); exact rfl)
  | with_reducible first
    | refine g_c ?_ | refine g_op ?_ | refine g_un ?_ | refine g_cb ?_ | refine g_cl ?_ | refine g_clk ?_ | refine g_nil ?_ | refine g_cons ?_
    | refine g_tB ?_ | refine g_test ?_ | refine g_bl ?_ | refine g_and ?_ | refine g_or ?_ | refine g_not ?_ | refine g_andV ?_ | refine g_orV ?_ | refine g_notV ?_
    | refine g_if ?_ | refine g_ifS ?_ | refine g_next ?_ | refine g_ret ?_ | refine g_drop ?_ | refine g_asg ?_ | refine g_name ?_ | refine g_sub ?_
    | refine g_int ?_ | refine g_intB ?_ | refine g_abs ?_ | refine g_I0 ?_ | refine g_addI ?_ | refine g_U ?_ | refine g_isNn ?_ | refine g_isNi ?_ | refine g_notN ?_ | refine g_notT1 ?_ | refine g_notT2 ?_ | refine g_notT3 ?_ | refine g_notT4 ?_ | refine g_notTb ?_ | refine g_notTi ?_ | refine g_eqI ?_ | refine g_neI ?_ | refine g_neSs ?_ | refine g_neS ?_ | refine g_eqS ?_
    | refine g_iteT ?_ | refine g_iteF ?_ | refine g_iteNT ?_ | refine g_iteNF ?_ | refine g_lst ?_ | refine g_lstS ?_ | refine g_xat ?_ | refine g_mkX ?_ | refine g_mkXk ?_ | refine g_tup ?_ | refine g_seqP ?_ | refine g_sl ?_ | refine g_noPart ?_ | refine g_part ?_ | refine g_yes ?_ | refine g_thenT ?_ | refine g_consG ?_ | refine g_nilG ?_ | refine g_ii ?_ | refine g_par ?_ | refine g_par3 ?_ | refine g_vv ?_ | refine g_vvv ?_ | refine g_reprB ?_ | refine g_lcL ?_ | refine g_lcR ?_
  | ((with_reducible refine g_mod ?_ ?_); (first | omega | decide))
  | ((with_reducible refine g_div ?_ ?_ ?_); (first | omega | decide); (first | assumption | decide))
  | ((with_reducible refine g_mulL ?_ ?_ ?_); (first | omega | decide); (first | omega | decide))
  | ((with_reducible refine g_mulR ?_ ?_ ?_); (first | omega | decide); (first | omega | decide))
  | ((with_reducible refine g_pow ?_ ?_ ?_ ?_); decide; decide; (first | omega | decide))
  | dsimp only)
local macro_rules | `(tactic| walk_at "mfs") => `(tactic| repeat walk_at "mf1s")
local macro_rules | `(tactic| walk_at "mf") => `(tactic| repeat walk_at "mf1")
local macro_rules | `(tactic| walk_at "ed") => `(tactic| repeat (first
  | with_reducible first
    | exact eds_nil | apply eds_cons | exact ed_int | exact ed_bl | exact ed_non | apply ed_neg
  | ((with_reducible apply ed_str); decide)
  | ((with_reducible apply ed_var); (exact rfl); (first | assumption | exact Dq.int _))
  | ((with_reducible apply ed_dict0); assumption)
  | ((with_reducible apply ed_dict2); assumption)
  | ((with_reducible apply ed_tup); assumption)
  | ((with_reducible apply ed_lst); assumption)
  | (with_reducible apply ed_pow)
  | (with_reducible apply ed_mul)
  | assumption
  | (exact Dq.int _)
  | (exact ⟨by decide, by decide, by decide⟩)
  | (show List.length _ ≤ 1000; simp only [List.length_cons, List.length_nil]; decide)))
variable {C : Nat → Addr}
def sp_law (K : PySem.W.Frag) : Sp := fun vs H Q _ => ∃ (a : Addr) (ns : List Int), vs = [.ref a] ∧ SqL K H a (ns.map V.int) ∧ ns.length ≤ 63 ∧ ∀ H', Q (.bl true) H'
theorem ok_law (c : Cn) (T : Tx c C) : Cl c 5 "law" s_law ["script"] (sp_law c.K) := by
  obtain ⟨P, w, K, mg, base⟩ := c
  have C__law_caught := ok__law_caught _ T
  have C__law_field := ok__law_field _ T
  have C__law_is_plain := ok__law_is_plain _ T
  have C__law_moor := ok__law_moor _ T
  have C__law_parts := ok__law_parts _ T
  have C__law_quay := ok__law_quay _ T
  have C__law_which := ok__law_which _ T
  have E_TooMany := ec_TooMany _ T
  have E_BadText := ec_BadText _ T
  refine De.cl (N := ["script", "quay", "great", "turn", "part", "other", "errors", "at", "error", "many", "text", "spot"]) T.d_law sc_law (fun vs H Q E h => ?_) (fun f0 cdv A outer s H vs Q E hA hr h => ?_)
  · obtain ⟨a, ns, rfl, _⟩ := h; rfl
  · have S := sc_law
    obtain ⟨a, ns, rfl, hS, hlen, k⟩ := h
    refine ⟨_, (pss_cons (ps_set (i := 1) S.nd rfl (by first | exact .inl rfl | exact .inr rfl) (pe_f C__law_quay hA hr (by decide) pl__law_quay (by rfl) (pa_cons (pv 0) pa_nil)))
      (pss_cons (ps_set (i := 2) S.nd rfl (by first | exact .inl rfl | exact .inr rfl) (pe_op op_shl pe_int (pe_op op_addU pe_int (pe_f C__law_moor hA hr (by decide) pl__law_moor (by rfl) (pa_cons (pv 1) (pa_cons pe_int pa_nil))))))
      (pss_cons (ps_if (PW.pt (pw_or (pt_cmpR (show OpR _ (compareOp .NotEq) (rNeU K) from op_neU (by exact hr.units)) (pe_lc (own := [("error", 8)]) (g := gName 8) rfl S.nd (pi_list (pe_f C__law_parts hA hr (by decide) pl__law_parts (by rfl) (pa_cons (pv 2) pa_nil))) (blkOk_by (N := ["script", "quay", "great", "turn", "part", "other", "errors", "at", "error", "many", "text", "spot"]) (sc := defScope s_law) (by decide +kernel)) (fun _ _ _ _ _ => pg_name (i := 8) S.nd rfl (Or.inl rfl)) (fun _ _ _ _ _ => pts_one (by exact (pt_cmpR (show OpR _ (compareOp .NotEq) (rNeU K) from op_neU (by exact hr.units)) (show PE _ _ (tXat K _ _) from pe_xat (pv 8)) (pv 2) (nomark _)))) (fun _ _ _ _ _ => (pv 8))) (pe_lst pa_nil) (nomark _)) (pw_or (pt_cmpR (show OpR _ (compareOp .NotEq) (rNeU K) from op_neU (by exact hr.units)) (show PE _ _ (tXat K _ _) from pe_xat (pe_mkX E_TooMany hA hr (by decide) (by rfl) (pa_cons (pv 2) (pa_cons (pv 2) pa_nil)))) (pv 2) (nomark _)) (pw_or1 (pt_cmpR (show OpR _ (compareOp .NotEq) (rNeU K) from op_neU (by exact hr.units)) (show PE _ _ (tXat K _ _) from pe_xat (pe_mkX E_BadText hA hr (by decide) (by rfl) (pa_cons (pv 2) (pa_cons (pv 2) pa_nil)))) (pv 2) (nomark _)))))) (pss_one (ps_ret pe_bl)) pss_nil)
      (pss_cons (ps_for PassesOwn.never rfl (pi_range1 rfl T.n_range (pa_cons pe_int pa_nil)) (pg_name (i := 3) S.nd rfl (by first | exact .inl rfl | exact .inr rfl)) (pss_cons (ps_par (i := 4) (j := 5) (by rfl) S.nd rfl rfl (by decide) rfl rfl (pa_cons (pe_f C__law_field hA hr (by decide) pl__law_field (by rfl) (pa_cons (pv 1) pa_nil)) (pa_cons (pe_f C__law_field hA hr (by decide) pl__law_field (by rfl) (pa_cons (pv 1) pa_nil)) pa_nil)) (by rfl))
      (pss_cons (ps_set (i := 6) S.nd rfl (by first | exact .inl rfl | exact .inr rfl) (pe_f C__law_parts hA hr (by decide) pl__law_parts (by rfl) (pa_cons (pv 4) pa_nil)))
      (pss_cons (ps_for PassesOwn.never rfl (pi_enum (by rfl) T.n_enumerate (pa_cons (pv 6) pa_nil)) (pg_tup rfl (pgs_cons (pg_name (i := 7) S.nd rfl (by first | exact .inl rfl | exact .inr rfl)) (pgs_cons (pg_name (i := 8) S.nd rfl (by first | exact .inl rfl | exact .inr rfl)) pgs_nil))) (pss_one (ps_if (PW.pt (pw_or (pt_cmpR (show OpR _ (compareOp .NotEq) (rNeU K) from op_neU (by exact hr.units)) (pe_f C__law_which hA hr (by decide) pl__law_which (by rfl) (pa_cons (pv 8) pa_nil)) (pe_lc (own := [("spot", 11)]) (g := gName 11) (tt := tYes) rfl S.nd (pi_range1 rfl T.n_range (pa_cons pe_int pa_nil)) (blkOk_by (N := ["script", "quay", "great", "turn", "part", "other", "errors", "at", "error", "many", "text", "spot"]) (sc := defScope s_law) (by decide +kernel)) (fun _ _ _ _ _ => pg_name (i := 11) S.nd rfl (Or.inl rfl)) (fun _ _ _ _ _ => pts_nil) (fun _ _ _ _ _ => (pe_cmpR (show OpR _ (compareOp .Eq) (rEqU K) from op_eqU (by exact hr.units)) (pv 11) (pv 7) (nomark _)))) (nomark _)) (pw_or1 (pt_cmpR (show OpR _ (compareOp .NotEq) (rNeU K) from op_neU (by exact hr.units)) (pe_callB (call_reprK hA hr.units) (by rfl) T.n_repr (show bootBuiltins "repr" = some (.builtin "repr") by decide +kernel) (pa_cons (show PE _ _ (tXat K _ _) from pe_xat (pv 8)) pa_nil)) (pe_callB (call_reprK hA hr.units) (by rfl) T.n_repr (show bootBuiltins "repr" = some (.builtin "repr") by decide +kernel) (pa_cons (pv 4) pa_nil)) (nomark _))))) (pss_one (ps_ret pe_bl)) pss_nil)))
      (pss_cons (ps_par (i := 9) (j := 10) (by rfl) S.nd rfl rfl (by decide) rfl rfl (pa_cons (pe_mkX E_TooMany hA hr (by decide) (by rfl) (pa_cons (pv 4) (pa_cons (pv 5) pa_nil))) (pa_cons (pe_mkX E_BadText hA hr (by decide) (by rfl) (pa_cons (pv 4) (pa_cons (pv 5) pa_nil))) pa_nil)) (by rfl))
      (pss_cons (ps_if (pt_cmpR (show OpR _ (compareOp .Eq) (rEqU K) from op_eqU (by exact hr.units)) (pv 3) pe_int (nomark _)) (pss_one (ps_par (i := 9) (j := 10) (by rfl) S.nd rfl rfl (by decide) rfl rfl (pa_cons (pe_mkXk E_TooMany hA hr (by decide) (by rfl) (pk_cons (pv 5) (pk_cons (pv 4) pk_nil))) (pa_cons (pe_mkXk E_BadText hA hr (by decide) (by rfl) (pk_cons (pv 5) (pk_cons (pv 4) pk_nil))) pa_nil)) (by rfl))) pss_nil)
      (pss_cons (ps_if (pt_cmpR (show OpR _ (compareOp .NotEq) (rNeU K) from op_neU (by exact hr.units)) (pe_callB (call_reprL hA hr.units) (by rfl) T.n_repr (show bootBuiltins "repr" = some (.builtin "repr") by decide +kernel) (pa_cons (pe_lstS (pa_cons (show PE _ _ (tXat K _ _) from pe_xat (pv 9)) (pa_cons (show PE _ _ (tXat K _ _) from pe_xat (pv 9)) (pa_cons (show PE _ _ (tXat K _ _) from pe_xat (pv 10)) (pa_cons (show PE _ _ (tXat K _ _) from pe_xat (pv 10)) pa_nil))))) pa_nil)) (pe_callB (call_reprL hA hr.units) (by rfl) T.n_repr (show bootBuiltins "repr" = some (.builtin "repr") by decide +kernel) (pa_cons (pe_lstS (pa_cons (pv 4) (pa_cons (pv 5) (pa_cons (pv 4) (pa_cons (pv 5) pa_nil))))) pa_nil)) (nomark _)) (pss_one (ps_ret pe_bl)) pss_nil)
      (pss_cons (ps_if (PW.pt (pw_or (pt_cmpR (show OpR _ (compareOp .NotEq) (rNeU K) from op_neU (by exact hr.units)) (pe_f C__law_which hA hr (by decide) pl__law_which (by rfl) (pa_cons (pv 9) pa_nil)) (pe_op op_addU (pe_op op_mulU (pe_lst (pa_cons pe_bl pa_nil)) pe_int) (pe_lst (pa_cons pe_bl (pa_cons pe_bl pa_nil)))) (nomark _)) (pw_or1 (pt_cmpR (show OpR _ (compareOp .NotEq) (rNeU K) from op_neU (by exact hr.units)) (pe_f C__law_which hA hr (by decide) pl__law_which (by rfl) (pa_cons (pv 10) pa_nil)) (pe_op op_addU (pe_op op_mulU (pe_lst (pa_cons pe_bl pa_nil)) pe_int) (pe_lst (pa_cons pe_bl pa_nil))) (nomark _))))) (pss_one (ps_ret pe_bl)) pss_nil)
      (pss_one (ps_if (PW.pt (pw_or (pt_cmpR (show OpR _ (compareOp .NotEq) (rNeU K) from op_neU (by exact hr.units)) (pe_lc (own := [("error", 8)]) (g := gName 8) rfl S.nd (pi_list (pe_op op_addU (pv 6) (pe_lst (pa_cons (pv 9) (pa_cons (pv 10) pa_nil))))) (blkOk_by (N := ["script", "quay", "great", "turn", "part", "other", "errors", "at", "error", "many", "text", "spot"]) (sc := defScope s_law) (by decide +kernel)) (fun _ _ _ _ _ => pg_name (i := 8) S.nd rfl (Or.inl rfl)) (fun _ _ _ _ _ => pts_one (by exact (pt_not (pt_val (pe_f C__law_is_plain hA hr (by decide) pl__law_is_plain (by rfl) (pa_cons (pv 8) pa_nil)))))) (fun _ _ _ _ _ => (pv 8))) (pe_lst pa_nil) (nomark _)) (pw_or1 (pt_cmpR (show OpR _ (compareOp .NotEq) (rNeU K) from op_neU (by exact hr.units)) (pe_callB (call_reprK hA hr.units) (by rfl) T.n_repr (show bootBuiltins "repr" = some (.builtin "repr") by decide +kernel) (pa_cons (pe_f C__law_caught hA hr (by decide) pl__law_caught (by rfl) (pa_cons (pv 4) (pa_cons (pe_f C__law_moor hA hr (by decide) pl__law_moor (by rfl) (pa_cons (pv 1) (pa_cons pe_int pa_nil))) pa_nil))) pa_nil)) (pe_callB (call_reprK hA hr.units) (by rfl) T.n_repr (show bootBuiltins "repr" = some (.builtin "repr") by decide +kernel) (pa_cons (pv 4) pa_nil)) (nomark _))))) (pss_one (ps_ret pe_bl)) pss_nil))))))))))
      (pss_one (ps_ret pe_bl)))))), ?_⟩
    walk_at "mf"
    refine ⟨a, ns, rfl, hS, hlen, fun q H1 s1 hqn hq => ?_⟩
    walk_at "mf"
    refine ⟨q, 0, 99, rfl, hq, by omega, by omega, by decide, fun t1 H2 d sx1 hq1 l1 u1 d0 d1 => ?_⟩
    walk_at "mf"
    refine g_I (C := CPow) ⟨by omega, by omega, by decide⟩ ?_
    generalize (1 : Int) * 2 ^ (20000 + d).toNat = gr
    walk_at "mf"
    refine ⟨.int gr, rfl, fun p l H3 s3 n3 e3 len3 el3 => ?_⟩
    walk_at "mf"
    refine ⟨p, rfl, ⟨_, seqU e3⟩, ?_⟩
    refine lcgo_listF (xs := l) (fun D i H' => Same H3 H' ∧ H' D = some (.lst [])) (fun x => rfl) (fun D hD => ⟨same_new hD, upd_same⟩) (fun D i H' _ h => h.1.seq (seqU e3)) (fun D i x H' hD ex h => ?_) (fun D H4 hD h => ?_)
    · obtain ⟨h1, h2⟩ := h
      obtain ⟨ae, rfl, ee⟩ := el3.at ex
      have hi : i < 8 := by
        have := (List.getElem?_eq_some_iff.mp ex).1
        omega
      rw [Nat.zero_add] at ee
      walk_at "mf"
      refine g_xp T hi (ee.go h1) ?_
      walk_at "mf"
      rw [show (!decide (gr = gr)) = false by simp]
      walk_at "mf"
      exact ⟨h1, h2⟩
    · obtain ⟨h1, h2⟩ := h
      walk_at "mf"
      refine g_newL (by show 0 ≤ sizeLine; decide) fun p5 H5 n5 s5 e5 => ?_
      walk_at "mf"
      refine g_neNil (ns := []) (seqU (s5 _ _ h2)) (seqU e5) ?_
      walk_at "mf"
      rw [show (!([] : List Int).isEmpty) = false from rfl]
      walk_at "mf"
      refine ⟨rfl, fun a6 H6 n6 s6 r6 => ?_⟩
      walk_at "mf"
      refine (g_x8 T (u := .int gr) (v := .int gr) r6).2 ?_
      walk_at "mf"
      rw [show (!decide (gr = gr)) = false by simp]
      walk_at "mf"
      refine ⟨rfl, fun a7 H7 n7 s7 r7 => ?_⟩
      walk_at "mf"
      refine (g_x9 T (u := .int gr) (v := .int gr) r7).2 ?_
      walk_at "mf"
      rw [show (!decide (gr = gr)) = false by simp]
      walk_at "mf"
      have sA : SameX q H2 H7 := Same.x (((((s3.trans h1).trans s5).trans s6).trans s7))
      have hq7 := hq1.same (((((s3.trans h1).trans s5).trans s6).trans s7))
      clear r6 r7 e5 h2 e3 el3 h1 s3 s5 s6 s7 n5 n6 n7 n3 sA
      refine g_for1 ⟨by decide, by decide⟩ (fun i σ' H' => (∃ o3 o4 o5 o6 o7 o8 o9 o10 o11, σ' = [some (.ref a), some (.ref q), some (.int gr), o3, o4, o5, o6, o7, o8, o9, o10, o11]) ∧ ∃ t, Qy K q t H' ∧ t ≤ 10 + 20 * (i : Int)) ⟨⟨_, _, _, _, _, _, _, _, _, rfl⟩, t1, hq7, by omega⟩ (fun i σ' H' hi hP => ?_) (fun σ' H' hP => ?_)
      · obtain ⟨⟨o3, o4, o5, o6, o7, o8, o9, o10, o11, rfl⟩, t, hqt, htt⟩ := hP
        have hi2 : i < 2 := hi
        walk_at "mf"
        refine ⟨q, t, rfl, hqt, by omega, fun t2 v2 dv2 G1 y1 qy1 l1 u1 m1 k1 => ?_⟩
        walk_at "mf"
        refine ⟨q, t2, rfl, qy1, by omega, fun t3 v3 dv3 G2 y2 qy2 l2 u2 m2 k2 => ?_⟩
        walk_at "mf"
        refine ⟨v2, rfl, fun pe le G3 y3 n3 e3 len3 el3 => ?_⟩
        walk_at "mf"
        refine g_enum (a := pe) (xs := le) rfl (seqU e3) (fun j σ' H' => (∃ o7 o8 o11, σ' = [some (.ref a), some (.ref q), some (.int gr), some (.int (0 + (i : Int))), some v2, some v3, some (.ref pe), o7, o8, o9, o10, o11]) ∧ Same G3 H') ⟨⟨_, _, _, rfl⟩, Same.refl _⟩ (fun j σ' H' _ h => h.2.seq (seqU e3)) (fun j T0 x σ' H' hj hP nT eb => ?_) (fun σ' H4 hP => ?_)
        · obtain ⟨⟨o7, o8, o11, rfl⟩, sJ⟩ := hP
          obtain ⟨ae, rfl, ee⟩ := el3.at eb
          rw [Nat.zero_add] at ee
          have hj8 : j < 8 := by omega
          have sT : Same H' (upd H' T0 (.tup [.int (j : Nat), .ref ae])) := same_new nT
          refine g_tupG (tupU upd_same) rfl ?_
          walk_at "mf"
          have ee1 := (ee.go sJ).go sT
          generalize upd H' T0 (.tup [.int (j : Nat), .ref ae]) = Ha at *
          refine ⟨ae, j, _, rfl, by omega, ee1, fun pw Hb sb eb2 => ?_⟩
          walk_at "mf"
          refine ⟨10, rfl, by decide, by decide, ?_⟩
          refine lcgo_range (n := 10) (fun D n H' => Same Hb H' ∧ H' D = some (.lst ((List.range n).map fun z => V.bl (decide (z = j))))) (fun x => rfl) (fun D hD => ⟨same_new hD, upd_same⟩) (fun D n H' hD hn h => ?_) (fun D Hc hD h => ?_)
          · obtain ⟨h1, h2⟩ := h
            walk_at "mf"
            refine ⟨_, h2, ?_, ?_, ?_⟩
            · rw [List.length_map, List.length_range]
              exact small1000 (by omega)
            · intro b o e
              rw [upd_ne (ne_of_none e hD)]
              exact h1 b o e
            · rw [upd_same, List.range_succ, List.map_append]
              have e9 : decide ((0 : Int) + (n : Int) = (j : Int)) = decide (n = j) := decide_eq_decide.mpr (by omega)
              rw [e9]
              rfl
          · obtain ⟨h1, h2⟩ := h
            walk_at "mf"
            refine g_neBB (i := j) (by omega) (h1 _ _ eb2) h2 ?_
            walk_at "mf"
            refine g_xp T hj8 ((ee1.go sb).go h1) ?_
            walk_at "mf"
            have kk : Dk q K Hc v2 dv2 := k1.go (y2.trans (Same.x ((((y3.trans sJ).trans sT).trans sb).trans h1)))
            obtain ⟨f1, f2, f3⟩ := fieldsOk dv2 m1
            refine ⟨q, v2, dv2, rfl, kk, f1, f2, Nat.le_trans f3 (by decide), ?_⟩
            walk_at "mf"
            refine ⟨q, v2, dv2, rfl, kk, f1, f2, Nat.le_trans f3 (by decide), ?_⟩
            walk_at "mf"
            exact ⟨⟨_, _, _, rfl⟩, ((sJ.trans sT).trans sb).trans h1⟩
        · obtain ⟨⟨o7, o8, o11, rfl⟩, sJ⟩ := hP
          walk_at "mfs"
          refine g_seq ?_
          walk_at "mfs"
          refine ⟨rfl, fun am H5 n5 s5 r5 => ?_⟩
          walk_at "mfs"
          refine ⟨rfl, fun ax H6 n6 s6 r6 => ?_⟩
          walk_at "mfs"
          refine g_seqJ (fun σ' H' => ∃ am ax, σ' = [some (.ref a), some (.ref q), some (.int gr), some (.int (0 + (i : Int))), some v2, some v3, some (.ref pe), o7, o8, some (.ref am), some (.ref ax), o11] ∧ Same H6 H' ∧ Er H' am (C 8) [("most", v3), ("what", v2)] ∧ Er H' ax (C 9) [("item", v3), ("line", v2)]) (fun nx kn => ?_) (fun σ' H7 hP => ?_)
          · walk_at "mf"
            refine g_ite (fun _ => ?_) (fun _ => ?_)
            · walk_at "mf"
              refine ⟨rfl, fun am H7 n7 s7 r7 => ?_⟩
              walk_at "mf"
              refine ⟨rfl, fun ax H8 n8 s8 r8 => ?_⟩
              walk_at "mf"
              exact kn _ _ ⟨am, ax, rfl, s7.trans s8, r7.go s8, r8⟩
            · walk_at "mf"
              exact kn _ _ ⟨am, ax, rfl, Same.refl _, r5.go s6, r6⟩
          obtain ⟨am, ax, rfl, s7, rm, rx⟩ := hP
          have sK : Same G3 H7 := ((sJ.trans s5).trans s6).trans s7
          have k27 : Dk q K H7 v2 dv2 := k1.go (y2.trans (Same.x (y3.trans sK)))
          have k37 : Dk q K H7 v3 dv3 := k2.go (Same.x (y3.trans sK))
          have q7 : Qy K q t3 H7 := qy2.same (y3.trans sK)
          have el7 : ErL C v2 H7 0 le := el3.go sK
          have e7 : H7 pe = some (.lst le) := sK _ _ e3
          clear r5 r6 s5 s6 s7 n5 n6 sJ sK el3 e3 n3 y3 qy2 qy1 k1 k2 y1 y2
          walk_at "mf"
          refine (g_x8 T rm).1 ?_
          walk_at "mf"
          refine (g_x8 T rm).2 ?_
          walk_at "mf"
          refine (g_x9 T rx).1 ?_
          walk_at "mf"
          refine (g_x9 T rx).2 ?_
          walk_at "mf"
          obtain ⟨z1, z2, z3⟩ := fields4 dv2 m1 dv3 m2
          refine g_newS (by show 4 ≤ sizeLine; decide) fun p8 H8 n8 m8 s8 e8 => ?_
          walk_at "mf"
          refine ⟨q, p8, _, _, rfl, e8, m8, .cons (k27.go (Same.x s8)) (.cons (k37.go (Same.x s8)) (.cons (k27.go (Same.x s8)) (.cons (k37.go (Same.x s8)) .nil))), z1, z2, Nat.le_trans z3 (by decide), ?_⟩
          walk_at "mf"
          refine g_newS (by show 4 ≤ sizeLine; decide) fun p9 H9 n9 m9 s9 e9 => ?_
          walk_at "mf"
          have s89 := s8.trans s9
          refine ⟨q, p9, _, _, rfl, e9, m9, .cons (k27.go (Same.x s89)) (.cons (k37.go (Same.x s89)) (.cons (k27.go (Same.x s89)) (.cons (k37.go (Same.x s89)) .nil))), z1, z2, Nat.le_trans z3 (by decide), ?_⟩
          walk_at "mf"
          have rm9 := rm.go s89
          have rx9 := rx.go s89
          refine ⟨am, 8, _, rfl, by decide, rm9, fun pa Ha sa ea => ?_⟩
          walk_at "mf"
          refine g_newL (by show 1 ≤ sizeLine; decide) fun pb Hb nb sb eb => ?_
          walk_at "mf"
          refine g_rep eb (by decide) (by decide) (by show 1 * 8 ≤ sizeLine; decide) fun pc Hc nc sc ec => ?_
          walk_at "mf"
          refine g_newL (by show 2 ≤ sizeLine; decide) fun pd Hd nd sd ed => ?_
          walk_at "mf"
          refine g_cat (sd _ _ ec) ed (by show 8 + 2 ≤ sizeLine; decide) fun pe2 He ne2 se ee => ?_
          have t1s := ((sb.trans sc).trans sd).trans se
          refine g_neBB (i := 8) (by decide) (t1s _ _ ea) ee ?_
          walk_at "mf"
          have sF := sa.trans t1s
          refine ⟨ax, 9, _, rfl, by decide, rx9.go sF, fun pa' Ha' sa' ea' => ?_⟩
          walk_at "mf"
          refine g_newL (by show 1 ≤ sizeLine; decide) fun pb' Hb' nb' sb' eb' => ?_
          walk_at "mf"
          refine g_rep eb' (by decide) (by decide) (by show 1 * 9 ≤ sizeLine; decide) fun pc' Hc' nc' sc' ec' => ?_
          walk_at "mf"
          refine g_newL (by show 1 ≤ sizeLine; decide) fun pd' Hd' nd' sd' ed' => ?_
          walk_at "mf"
          refine g_cat (sd' _ _ ec') ed' (by show 9 + 1 ≤ sizeLine; decide) fun pe' He' ne' se' ee' => ?_
          have t2s := ((sb'.trans sc').trans sd').trans se'
          refine g_neBB (i := 9) (by decide) (t2s _ _ ea') ee' ?_
          walk_at "mf"
          have sG := (s89.trans sF).trans (sa'.trans t2s)
          have kG := k27.go (Same.x sG)
          have qG := q7.same sG
          have elG := el7.go sG
          have eG := sG _ _ e7
          have rmG := rm.go sG
          have rxG := rx.go sG
          clear rm rx rm9 rx9 e7 el7 q7 k27 k37 sG t2s t1s sF s89 ea ee ec ed eb ea' ee' ec' ed' eb' s8 s9 e8 e9 sa sb sc sd se sa' sb' sc' sd' se'
          refine g_newL (by show 2 ≤ sizeLine; decide) fun pf Hf nf sf ef => ?_
          walk_at "mf"
          refine g_cat (sf _ _ eG) ef (by show le.length + 2 ≤ sizeLine; rw [len3]; decide) fun pg Hg ng sg eg => ?_
          walk_at "mf"
          have sH := sf.trans sg
          have any : ∀ x ∈ le ++ [V.ref am, V.ref ax], ∃ a' i' fs', x = .ref a' ∧ i' < 10 ∧ Er Hg a' (C i') fs' := by
            intro x hx
            rcases List.mem_append.mp hx with hx | hx
            · obtain ⟨j, hj⟩ := List.mem_iff_getElem?.mp hx
              obtain ⟨a', e1, e2⟩ := elG.at hj
              have hjl := (List.getElem?_eq_some_iff.mp hj).1
              rw [Nat.zero_add] at e2
              exact ⟨a', j, _, e1, by omega, e2.go sH⟩
            · cases hx with
              | head => exact ⟨am, 8, _, rfl, by decide, rmG.go sH⟩
              | tail _ hx =>
                cases hx with
                | head => exact ⟨ax, 9, _, rfl, by decide, rxG.go sH⟩
                | tail _ hx => cases hx
          refine ⟨pg, rfl, ⟨_, seqU eg⟩, ?_⟩
          refine lcgo_listF (xs := le ++ [V.ref am, V.ref ax]) (fun D i H' => Same Hg H' ∧ H' D = some (.lst [])) (fun x => rfl) (fun D hD => ⟨same_new hD, upd_same⟩) (fun D i H' _ h => h.1.seq (seqU eg)) (fun D j x H' hD ex h => ?_) (fun D Hh hD h => ?_)
          · obtain ⟨h1, h2⟩ := h
            obtain ⟨a', i', fs', rfl, hi', er'⟩ := any x (List.mem_of_getElem? ex)
            walk_at "mf"
            refine ⟨a', i', fs', rfl, hi', er'.go h1, fun H9' s9' => ?_⟩
            walk_at "mf"
            exact ⟨h1.trans s9', s9' _ _ h2⟩
          · obtain ⟨h1, h2⟩ := h
            walk_at "mf"
            refine g_newL (by show 0 ≤ sizeLine; decide) fun pi Hi ni si ei => ?_
            walk_at "mf"
            refine g_neNil (ns := []) (seqU (si _ _ h2)) (seqU ei) ?_
            walk_at "mf"
            rw [show (!([] : List Int).isEmpty) = false from rfl]
            walk_at "mf"
            have sI := (sH.trans h1).trans si
            have kI := kG.go (Same.x sI)
            have qI := qG.same sI
            clear h2 ei eg ef eG elG rmG rxG any
            refine ⟨q, t3, 3, rfl, qI, by omega, by omega, by decide, fun t4 Hj dj sj qj lj uj dj0 dj1 => ?_⟩
            walk_at "mf"
            refine ⟨v2, dj, rfl, fun Hk sk => ?_⟩
            have kK := (kI.go sj).go (Same.x sk)
            obtain ⟨f1, f2, f3⟩ := fieldsOk dv2 m1
            walk_at "mf"
            refine ⟨q, v2, dv2, rfl, kK, f1, f2, Nat.le_trans f3 (by decide), ?_⟩
            walk_at "mf"
            refine ⟨q, v2, dv2, rfl, kK, f1, f2, Nat.le_trans f3 (by decide), ?_⟩
            walk_at "mf"
            exact ⟨⟨_, _, _, _, _, _, _, _, _, rfl⟩, t4, qj.same sk, by omega⟩
      · obtain ⟨⟨o3, o4, o5, o6, o7, o8, o9, o10, o11, rfl⟩, t, hqt, htt⟩ := hP
        walk_at "mf"
        exact k _
end Mf
namespace Mf
open PySem PySem.Spec PyProof.Rows L2
local macro_rules | `(tactic| walk_at "mf1") => `(tactic| first
  | ((with_reducible apply g_var); exact rfl)
  | with_reducible first
    | refine g_c ?_ | refine g_op ?_ | refine g_un ?_ | refine g_cb ?_ | refine g_cl ?_ | refine g_clk ?_ | refine g_nil ?_ | refine g_cons ?_
    | refine g_tB ?_ | refine g_test ?_ | refine g_bl ?_ | refine g_and ?_ | refine g_or ?_ | refine g_not ?_ | refine g_andV ?_ | refine g_orV ?_ | refine g_notV ?_
    | refine g_if ?_ | refine g_ifS ?_ | refine g_seq ?_ | refine g_next ?_ | refine g_ret ?_ | refine g_drop ?_ | refine g_asg ?_ | refine g_name ?_ | refine g_sub ?_
    | refine g_int ?_ | refine g_intB ?_ | refine g_abs ?_ | refine g_I0 ?_ | refine g_addI ?_ | refine g_U ?_ | refine g_isNn ?_ | refine g_isNi ?_ | refine g_notN ?_ | refine g_notT1 ?_ | refine g_notT2 ?_ | refine g_notT3 ?_ | refine g_notT4 ?_ | refine g_notTb ?_ | refine g_notTi ?_ | refine g_eqI ?_ | refine g_neI ?_ | refine g_neSs ?_ | refine g_neS ?_ | refine g_eqS ?_
    | refine g_iteT ?_ | refine g_iteF ?_ | refine g_iteNT ?_ | refine g_iteNF ?_ | refine g_lst ?_ | refine g_lstS ?_ | refine g_xat ?_ | refine g_mkX ?_ | refine g_mkXk ?_ | refine g_tup ?_ | refine g_seqP ?_ | refine g_sl ?_ | refine g_noPart ?_ | refine g_part ?_ | refine g_yes ?_ | refine g_thenT ?_ | refine g_consG ?_ | refine g_nilG ?_ | refine g_ii ?_ | refine g_par ?_ | refine g_par3 ?_ | refine g_vv ?_ | refine g_vvv ?_ | refine g_reprB ?_ | refine g_lcL ?_ | refine g_lcR ?_
  | ((with_reducible refine g_mod ?_ ?_); (first | omega | decide))
  | ((with_reducible refine g_div ?_ ?_ ?_); (first | omega | decide); (first | assumption | decide))
  | ((with_reducible refine g_mulL ?_ ?_ ?_); (first | omega | decide); (first | omega | decide))
  | ((with_reducible refine g_mulR ?_ ?_ ?_); (first | omega | decide); (first | omega | decide))
  | ((with_reducible refine g_pow ?_ ?_ ?_ ?_); decide; decide; (first | omega | decide))
  | dsimp only)
local macro_rules | `(tactic| walk_at "mf1s") => `(tactic| first
  | ((with_reducible apply g_var); exact rfl)
  | with_reducible first
    | refine g_c ?_ | refine g_op ?_ | refine g_un ?_ | refine g_cb ?_ | refine g_cl ?_ | refine g_clk ?_ | refine g_nil ?_ | refine g_cons ?_
    | refine g_tB ?_ | refine g_test ?_ | refine g_bl ?_ | refine g_and ?_ | refine g_or ?_ | refine g_not ?_ | refine g_andV ?_ | refine g_orV ?_ | refine g_notV ?_
    | refine g_if ?_ | refine g_ifS ?_ | refine g_next ?_ | refine g_ret ?_ | refine g_drop ?_ | refine g_asg ?_ | refine g_name ?_ | refine g_sub ?_
    | refine g_int ?_ | refine g_intB ?_ | refine g_abs ?_ | refine g_I0 ?_ | refine g_addI ?_ | refine g_U ?_ | refine g_isNn ?_ | refine g_isNi ?_ | refine g_notN ?_ | refine g_notT1 ?_ | refine g_notT2 ?_ | refine g_notT3 ?_ | refine g_notT4 ?_ | refine g_notTb ?_ | refine g_notTi ?_ | refine g_eqI ?_ | refine g_neI ?_ | refine g_neSs ?_ | refine g_neS ?_ | refine g_eqS ?_
    | refine g_iteT ?_ | refine g_iteF ?_ | refine g_iteNT ?_ | refine g_iteNF ?_ | refine g_lst ?_ | refine g_lstS ?_ | refine g_xat ?_ | refine g_mkX ?_ | refine g_mkXk ?_ | refine g_tup ?_ | refine g_seqP ?_ | refine g_sl ?_ | refine g_noPart ?_ | refine g_part ?_ | refine g_yes ?_ | refine g_thenT ?_ | refine g_consG ?_ | refine g_nilG ?_ | refine g_ii ?_ | refine g_par ?_ | refine g_par3 ?_ | refine g_vv ?_ | refine g_vvv ?_ | refine g_reprB ?_ | refine g_lcL ?_ | refine g_lcR ?_
  | ((with_reducible refine g_mod ?_ ?_); (first | omega | decide))
  | ((with_reducible refine g_div ?_ ?_ ?_); (first | omega | decide); (first | assumption | decide))
  | ((with_reducible refine g_mulL ?_ ?_ ?_); (first | omega | decide); (first | omega | decide))
  | ((with_reducible refine g_mulR ?_ ?_ ?_); (first | omega | decide); (first | omega | decide))
  | ((with_reducible refine g_pow ?_ ?_ ?_ ?_); decide; decide; (first | omega | decide))
  | dsimp only)
local macro_rules | `(tactic| walk_at "mfs") => `(tactic| repeat walk_at "mf1s")
local macro_rules | `(tactic| walk_at "mf") => `(tactic| repeat walk_at "mf1")
local macro_rules | `(tactic| walk_at "ed") => `(tactic| repeat (first
  | with_reducible first
    | exact eds_nil | apply eds_cons | exact ed_int | exact ed_bl | exact ed_non | apply ed_neg
  | ((with_reducible apply ed_str); decide)
  | ((with_reducible apply ed_var); (exact rfl); (first | assumption | exact Dq.int _))
  | ((with_reducible apply ed_dict0); assumption)
  | ((with_reducible apply ed_dict2); assumption)
  | ((with_reducible apply ed_tup); assumption)
  | ((with_reducible apply ed_lst); assumption)
  | (with_reducible apply ed_pow)
  | (with_reducible apply ed_mul)
  | assumption
  | (exact Dq.int _)
  | (exact ⟨by decide, by decide, by decide⟩)
  | (show List.length _ ≤ 1000; simp only [List.length_cons, List.length_nil]; decide)))
theorem ed_mk {P : Program} {w : World} {K : PySem.W.Frag} {h b : Heap} {mg : Str → Option Value} {x qn : Str} {st : Stmt} {fs : List Str} {C F f : Addr} {nm q : Str} {N : Addr} {bs : List Value} {sn : List Str} {sub : List Value} {ab : Bool} {col : Option Bool} {dd : Option Addr} {k0 k1 k2 k3 k5 : Option Value} {od an : Option Addr} {sl : Array (Option Value)} {oc kV dc pm cd ct : Value} (X : K.In h) (G : h.Ns mainGlobals mg)
    (a : PySem.W.nsIn K mainGlobals x = some (some (.ref C))) (lc : K.lookup C = some (excClassObj nm q C N bs (.ref F :: veT) true sn sub ab col dd k0 k1 k2 k3 k5 "ValueError.__new__"))
    (sa : PySem.W.findIn K (.ref C) "__setattr__" = some (some (.builtin "object.__setattr__"))) (ga : PySem.W.findIn K (.ref C) "__getattribute__" = some (some (.builtin "BaseException.__getattribute__"))) (gg : PySem.W.findIn K (.ref C) "__getattr__" = some none) (ha : PySem.W.findIn K (.ref C) "__class__" = some (some (.builtin "object.__class__")))
    (hn : PySem.W.specialIn K (.builtin "object.__class__") "__get__" = some (some (.builtin "getset_descriptor.__get__"))) (ht : PySem.W.takesIn K (.builtin "object.__class__") = some true) (kc : PySem.W.keepIn K (.ref C) = true) (no : ∀ f ∈ fs, PySem.W.findIn K (.ref C) f = some none)
    (i : PySem.W.findIn K (.ref C) "__init__" = some (some (.ref f))) (t : PySem.W.typeIn K (.ref f) = some (.type "function"))
    (l : K.lookup f = some ⟨oc, od, .func (PySem.W.fnOf "__init__" qn (defArgs st) (defBody st) (defScope st) .none kV dc pm an cd ct), sl⟩) (c : PySem.W.codeIn K cd qn = true) (k : PySem.W.keepIn K (.ref f) = true) : Ed ⟨P, w, K, mg, b⟩ x qn st C (.ref F :: veT) fs :=
  { mg := PySem.W.mg_of X G a, cl := ⟨nm, q, N, bs, sn, sub, ab, col, dd, k0, k1, k2, k3, k5, lc⟩, ve := rfl, ob := by rw [List.contains_cons]; exact (Bool.or_eq_true _ _).mpr (.inr rfl), be := by rw [List.contains_cons]; exact (Bool.or_eq_true _ _).mpr (.inr rfl), sa := sa, kC := kc, hg := ga, hk := gg, ha := ha, hn := hn, ht := ht, no := no, ex := ⟨f, _, i, t, fun_mk l c k⟩ }
theorem no1 {K : PySem.W.Frag} {C : Addr} {f : Str} (h : PySem.W.findIn K (.ref C) f = some none) : ∀ g ∈ [f], PySem.W.findIn K (.ref C) g = some none := fun g hg => by
  cases hg with
  | head => exact h
  | tail _ z => cases z
theorem no2 {K : PySem.W.Frag} {C : Addr} {f e : Str} (h : PySem.W.findIn K (.ref C) f = some none) (h2 : PySem.W.findIn K (.ref C) e = some none) : ∀ g ∈ [f, e], PySem.W.findIn K (.ref C) g = some none := fun g hg => by
  cases hg with
  | head => exact h
  | tail _ z => exact no1 h2 g z
theorem inj_of {l : List Addr} (h : l.Nodup) : ∀ i j, i < l.length → j < l.length → l.getD i 0 = l.getD j 0 → i = j := fun i j hi hj e => by
  rw [List.getD_eq_getElem?_getD, List.getD_eq_getElem?_getD, List.getElem?_eq_getElem hi, List.getElem?_eq_getElem hj] at e
  have e' : l[i] = l[j] := e
  have P := List.pairwise_iff_getElem.mp h
  rcases Nat.lt_trichotomy i j with z | z | z
  · exact absurd e' (P i j hi hj z)
  · exact z
  · exact absurd e'.symm (P j i hj hi z)
theorem de_mk {P : Program} {w : World} {K : PySem.W.Frag} {h b : Heap} {mg : Str → Option Value} {x : Str} {st : Stmt} {f : Addr} {od an : Option Addr} {sl : Array (Option Value)} {oc kV dc pm cd ct : Value} (X : K.In h) (G : h.Ns mainGlobals mg)
    (a : PySem.W.nsIn K mainGlobals x = some (some (.ref f))) (l : K.lookup f = some ⟨oc, od, .func (PySem.W.fnOf x x (defArgs st) (defBody st) (defScope st) .none kV dc pm an cd ct), sl⟩)
    (c : PySem.W.codeIn K cd x = true) (k : PySem.W.keepIn K (.ref f) = true) : De ⟨P, w, K, mg, b⟩ x st := ⟨f, _, PySem.W.mg_of X G a, fun_mk l c k⟩
theorem end_mk {P : Program} {w : World} {K : PySem.W.Frag} {h : Heap} {mg : Str → Option Value} {fa : Addr} (hmg : mg "law" = some (.ref fa)) {C : Nat → Addr} (T : ∀ base : Heap, Tx ⟨P, w, K, mg, base⟩ C) :
    ∃ fd : FuncData, (∀ (s : Shared) (u : Value), BindsTo s fd ⟨[u], []⟩ [("script", u)]) ∧ ∀ base : Heap, K.In base → base.Ns mainGlobals mg → FnG P w K mg base CX0 5 fa fd ["script"] (sp_law K) := by
  obtain ⟨f, fd, hm, F⟩ := (T h).d_law.ex
  have e : f = fa := by
    have e := hm.symm.trans hmg
    cases e
    rfl
  subst e
  refine ⟨fd, fun s u => ?_, fun base _ _ => ?_⟩
  · obtain ⟨oc, od, kV, doc, pm, an, cdv, ct, osl, rfl, lk, hcd⟩ := F.ex
    exact .of_eq (pl_law kV doc pm an cdv ct [u] rfl)
  · obtain ⟨f2, fd2, F2, hm2, W2⟩ := (ok_law ⟨P, w, K, mg, base⟩ (T base)).ex
    have e2 : f2 = f := by
      have e := hm2.symm.trans hm
      cases e
      rfl
    subst e2
    obtain ⟨oc, od, kV, doc, pm, an, cdv, ct, osl, rfl, lk, hcd⟩ := F.ex
    obtain ⟨oc', od', kV', doc', pm', an', cdv', ct', osl', rfl, lk', hcd'⟩ := W2.ex
    rw [lk] at lk'
    cases lk'
    exact F2
theorem all_mk {P : Program} {w : World} {K : PySem.W.Frag} {h : Heap} {mg : Str → Option Value} {fa : Addr} (X : K.In h) (G : h.Ns mainGlobals mg) (hmg : mg "law" = some (.ref fa))
    {f0 f1 f2 f3 f4 f5 f6 f7 f8 : Addr} {od0 an0 od1 an1 od2 an2 od3 an3 od4 an4 od5 an5 od6 an6 od7 an7 od8 an8 : Option Addr} {sl0 sl1 sl2 sl3 sl4 sl5 sl6 sl7 sl8 : Array (Option Value)} {oc0 kV0 dc0 pm0 cd0 ct0 oc1 kV1 dc1 pm1 cd1 ct1 oc2 kV2 dc2 pm2 cd2 ct2 oc3 kV3 dc3 pm3 cd3 ct3 oc4 kV4 dc4 pm4 cd4 ct4 oc5 kV5 dc5 pm5 cd5 ct5 oc6 kV6 dc6 pm6 cd6 ct6 oc7 kV7 dc7 pm7 cd7 ct7 oc8 kV8 dc8 pm8 cd8 ct8 : Value}
    {fi0 fi1 fi2 fi3 fi4 fi5 fi6 fi7 fi8 fi9 cc0 cc1 cc2 cc3 cc4 cc5 cc6 cc7 cc8 cc9 cc10 : Addr} {nm0 qq0 : Str} {NN0 : Addr} {bs0 : List Value} {sn0 : List Str} {sb0 : List Value} {ab0 : Bool} {cl0 : Option Bool} {dD0 : Option Addr} {ka0 kb0 kc0 kd0 ke0 : Option Value} {oD0 aN0 : Option Addr} {sL0 : Array (Option Value)} {oC0 kV0x dC0 pM0 cD0 cT0 : Value} {nm1 qq1 : Str} {NN1 : Addr} {bs1 : List Value} {sn1 : List Str} {sb1 : List Value} {ab1 : Bool} {cl1 : Option Bool} {dD1 : Option Addr} {ka1 kb1 kc1 kd1 ke1 : Option Value} {oD1 aN1 : Option Addr} {sL1 : Array (Option Value)} {oC1 kV1x dC1 pM1 cD1 cT1 : Value} {nm2 qq2 : Str} {NN2 : Addr} {bs2 : List Value} {sn2 : List Str} {sb2 : List Value} {ab2 : Bool} {cl2 : Option Bool} {dD2 : Option Addr} {ka2 kb2 kc2 kd2 ke2 : Option Value} {oD2 aN2 : Option Addr} {sL2 : Array (Option Value)} {oC2 kV2x dC2 pM2 cD2 cT2 : Value} {nm3 qq3 : Str} {NN3 : Addr} {bs3 : List Value} {sn3 : List Str} {sb3 : List Value} {ab3 : Bool} {cl3 : Option Bool} {dD3 : Option Addr} {ka3 kb3 kc3 kd3 ke3 : Option Value} {oD3 aN3 : Option Addr} {sL3 : Array (Option Value)} {oC3 kV3x dC3 pM3 cD3 cT3 : Value} {nm4 qq4 : Str} {NN4 : Addr} {bs4 : List Value} {sn4 : List Str} {sb4 : List Value} {ab4 : Bool} {cl4 : Option Bool} {dD4 : Option Addr} {ka4 kb4 kc4 kd4 ke4 : Option Value} {oD4 aN4 : Option Addr} {sL4 : Array (Option Value)} {oC4 kV4x dC4 pM4 cD4 cT4 : Value} {nm5 qq5 : Str} {NN5 : Addr} {bs5 : List Value} {sn5 : List Str} {sb5 : List Value} {ab5 : Bool} {cl5 : Option Bool} {dD5 : Option Addr} {ka5 kb5 kc5 kd5 ke5 : Option Value} {oD5 aN5 : Option Addr} {sL5 : Array (Option Value)} {oC5 kV5x dC5 pM5 cD5 cT5 : Value} {nm6 qq6 : Str} {NN6 : Addr} {bs6 : List Value} {sn6 : List Str} {sb6 : List Value} {ab6 : Bool} {cl6 : Option Bool} {dD6 : Option Addr} {ka6 kb6 kc6 kd6 ke6 : Option Value} {oD6 aN6 : Option Addr} {sL6 : Array (Option Value)} {oC6 kV6x dC6 pM6 cD6 cT6 : Value} {nm7 qq7 : Str} {NN7 : Addr} {bs7 : List Value} {sn7 : List Str} {sb7 : List Value} {ab7 : Bool} {cl7 : Option Bool} {dD7 : Option Addr} {ka7 kb7 kc7 kd7 ke7 : Option Value} {oD7 aN7 : Option Addr} {sL7 : Array (Option Value)} {oC7 kV7x dC7 pM7 cD7 cT7 : Value} {nm8 qq8 : Str} {NN8 : Addr} {bs8 : List Value} {sn8 : List Str} {sb8 : List Value} {ab8 : Bool} {cl8 : Option Bool} {dD8 : Option Addr} {ka8 kb8 kc8 kd8 ke8 : Option Value} {oD8 aN8 : Option Addr} {sL8 : Array (Option Value)} {oC8 kV8x dC8 pM8 cD8 cT8 : Value} {nm9 qq9 : Str} {NN9 : Addr} {bs9 : List Value} {sn9 : List Str} {sb9 : List Value} {ab9 : Bool} {cl9 : Option Bool} {dD9 : Option Addr} {ka9 kb9 kc9 kd9 ke9 : Option Value} {oD9 aN9 : Option Addr} {sL9 : Array (Option Value)} {oC9 kV9x dC9 pM9 cD9 cT9 : Value} {nm10 qq10 : Str} {NN10 : Addr} {bs10 : List Value} {sn10 : List Str} {sb10 : List Value} {ab10 : Bool} {cl10 : Option Bool} {dD10 : Option Addr} {ka10 kb10 kc10 kd10 ke10 : Option Value} 
    (a0 : PySem.W.nsIn K mainGlobals "_law_quay" = some (some (.ref f0))) (l0 : K.lookup f0 = some ⟨oc0, od0, .func (PySem.W.fnOf "_law_quay" "_law_quay" (defArgs s__law_quay) (defBody s__law_quay) (defScope s__law_quay) .none kV0 dc0 pm0 an0 cd0 ct0), sl0⟩) (c0 : PySem.W.codeIn K cd0 "_law_quay" = true) (k0 : PySem.W.keepIn K (.ref f0) = true)
    (a1 : PySem.W.nsIn K mainGlobals "_law_moor" = some (some (.ref f1))) (l1 : K.lookup f1 = some ⟨oc1, od1, .func (PySem.W.fnOf "_law_moor" "_law_moor" (defArgs s__law_moor) (defBody s__law_moor) (defScope s__law_moor) .none kV1 dc1 pm1 an1 cd1 ct1), sl1⟩) (c1 : PySem.W.codeIn K cd1 "_law_moor" = true) (k1 : PySem.W.keepIn K (.ref f1) = true)
    (a2 : PySem.W.nsIn K mainGlobals "_law_pick" = some (some (.ref f2))) (l2 : K.lookup f2 = some ⟨oc2, od2, .func (PySem.W.fnOf "_law_pick" "_law_pick" (defArgs s__law_pick) (defBody s__law_pick) (defScope s__law_pick) .none kV2 dc2 pm2 an2 cd2 ct2), sl2⟩) (c2 : PySem.W.codeIn K cd2 "_law_pick" = true) (k2 : PySem.W.keepIn K (.ref f2) = true)
    (a3 : PySem.W.nsIn K mainGlobals "_law_field" = some (some (.ref f3))) (l3 : K.lookup f3 = some ⟨oc3, od3, .func (PySem.W.fnOf "_law_field" "_law_field" (defArgs s__law_field) (defBody s__law_field) (defScope s__law_field) .none kV3 dc3 pm3 an3 cd3 ct3), sl3⟩) (c3 : PySem.W.codeIn K cd3 "_law_field" = true) (k3 : PySem.W.keepIn K (.ref f3) = true)
    (a4 : PySem.W.nsIn K mainGlobals "_law_parts" = some (some (.ref f4))) (l4 : K.lookup f4 = some ⟨oc4, od4, .func (PySem.W.fnOf "_law_parts" "_law_parts" (defArgs s__law_parts) (defBody s__law_parts) (defScope s__law_parts) .none kV4 dc4 pm4 an4 cd4 ct4), sl4⟩) (c4 : PySem.W.codeIn K cd4 "_law_parts" = true) (k4 : PySem.W.keepIn K (.ref f4) = true)
    (a5 : PySem.W.nsIn K mainGlobals "_law_which" = some (some (.ref f5))) (l5 : K.lookup f5 = some ⟨oc5, od5, .func (PySem.W.fnOf "_law_which" "_law_which" (defArgs s__law_which) (defBody s__law_which) (defScope s__law_which) .none kV5 dc5 pm5 an5 cd5 ct5), sl5⟩) (c5 : PySem.W.codeIn K cd5 "_law_which" = true) (k5 : PySem.W.keepIn K (.ref f5) = true)
    (a6 : PySem.W.nsIn K mainGlobals "_law_is_plain" = some (some (.ref f6))) (l6 : K.lookup f6 = some ⟨oc6, od6, .func (PySem.W.fnOf "_law_is_plain" "_law_is_plain" (defArgs s__law_is_plain) (defBody s__law_is_plain) (defScope s__law_is_plain) .none kV6 dc6 pm6 an6 cd6 ct6), sl6⟩) (c6 : PySem.W.codeIn K cd6 "_law_is_plain" = true) (k6 : PySem.W.keepIn K (.ref f6) = true)
    (a7 : PySem.W.nsIn K mainGlobals "_law_caught" = some (some (.ref f7))) (l7 : K.lookup f7 = some ⟨oc7, od7, .func (PySem.W.fnOf "_law_caught" "_law_caught" (defArgs s__law_caught) (defBody s__law_caught) (defScope s__law_caught) .none kV7 dc7 pm7 an7 cd7 ct7), sl7⟩) (c7 : PySem.W.codeIn K cd7 "_law_caught" = true) (k7 : PySem.W.keepIn K (.ref f7) = true)
    (a8 : PySem.W.nsIn K mainGlobals "law" = some (some (.ref f8))) (l8 : K.lookup f8 = some ⟨oc8, od8, .func (PySem.W.fnOf "law" "law" (defArgs s_law) (defBody s_law) (defScope s_law) .none kV8 dc8 pm8 an8 cd8 ct8), sl8⟩) (c8 : PySem.W.codeIn K cd8 "law" = true) (k8 : PySem.W.keepIn K (.ref f8) = true)
    (z0 : PySem.W.nsIn K mainGlobals "ArithmeticError" = some none)
    (z1 : PySem.W.nsIn K mainGlobals "AttributeError" = some none)
    (z2 : PySem.W.nsIn K mainGlobals "LookupError" = some none)
    (z3 : PySem.W.nsIn K mainGlobals "RuntimeError" = some none)
    (z4 : PySem.W.nsIn K mainGlobals "TypeError" = some none)
    (z5 : PySem.W.nsIn K mainGlobals "ValueError" = some none)
    (z6 : PySem.W.nsIn K mainGlobals "abs" = some none)
    (z7 : PySem.W.nsIn K mainGlobals "enumerate" = some none)
    (z8 : PySem.W.nsIn K mainGlobals "int" = some none)
    (z9 : PySem.W.nsIn K mainGlobals "isinstance" = some none)
    (z10 : PySem.W.nsIn K mainGlobals "len" = some none)
    (z11 : PySem.W.nsIn K mainGlobals "range" = some none)
    (z12 : PySem.W.nsIn K mainGlobals "repr" = some none)
    (hN : PySem.W.specialIn K (.builtin "object.__class__") "__get__" = some (some (.builtin "getset_descriptor.__get__")))
    (hT : PySem.W.takesIn K (.builtin "object.__class__") = some true)
    (xa0 : PySem.W.nsIn K mainGlobals "BadNumber" = some (some (.ref cc0)))
    (xl0 : K.lookup cc0 = some (excClassObj nm0 qq0 cc0 NN0 bs0 (.ref cc10 :: veT) true sn0 sb0 ab0 cl0 dD0 ka0 kb0 kc0 kd0 ke0 "ValueError.__new__"))
    (xs0 : PySem.W.findIn K (.ref cc0) "__setattr__" = some (some (.builtin "object.__setattr__")))
    (xg0 : PySem.W.findIn K (.ref cc0) "__getattribute__" = some (some (.builtin "BaseException.__getattribute__")))
    (xh0 : PySem.W.findIn K (.ref cc0) "__getattr__" = some none)
    (xc0 : PySem.W.findIn K (.ref cc0) "__class__" = some (some (.builtin "object.__class__")))
    (xk0 : PySem.W.keepIn K (.ref cc0) = true)
    (xn0_0 : PySem.W.findIn K (.ref cc0) "part" = some none)
    (xi0 : PySem.W.findIn K (.ref cc0) "__init__" = some (some (.ref fi0)))
    (xt0 : PySem.W.typeIn K (.ref fi0) = some (.type "function"))
    (xf0 : K.lookup fi0 = some ⟨oC0, oD0, .func (PySem.W.fnOf "__init__" "BadNumber.__init__" (defArgs s_BadNumber) (defBody s_BadNumber) (defScope s_BadNumber) .none kV0x dC0 pM0 aN0 cD0 cT0), sL0⟩)
    (xd0 : PySem.W.codeIn K cD0 "BadNumber.__init__" = true)
    (xj0 : PySem.W.keepIn K (.ref fi0) = true)
    (xa1 : PySem.W.nsIn K mainGlobals "BadMap" = some (some (.ref cc1)))
    (xl1 : K.lookup cc1 = some (excClassObj nm1 qq1 cc1 NN1 bs1 (.ref cc10 :: veT) true sn1 sb1 ab1 cl1 dD1 ka1 kb1 kc1 kd1 ke1 "ValueError.__new__"))
    (xs1 : PySem.W.findIn K (.ref cc1) "__setattr__" = some (some (.builtin "object.__setattr__")))
    (xg1 : PySem.W.findIn K (.ref cc1) "__getattribute__" = some (some (.builtin "BaseException.__getattribute__")))
    (xh1 : PySem.W.findIn K (.ref cc1) "__getattr__" = some none)
    (xc1 : PySem.W.findIn K (.ref cc1) "__class__" = some (some (.builtin "object.__class__")))
    (xk1 : PySem.W.keepIn K (.ref cc1) = true)
    (xn1_0 : PySem.W.findIn K (.ref cc1) "part" = some none)
    (xi1 : PySem.W.findIn K (.ref cc1) "__init__" = some (some (.ref fi1)))
    (xt1 : PySem.W.typeIn K (.ref fi1) = some (.type "function"))
    (xf1 : K.lookup fi1 = some ⟨oC1, oD1, .func (PySem.W.fnOf "__init__" "BadMap.__init__" (defArgs s_BadMap) (defBody s_BadMap) (defScope s_BadMap) .none kV1x dC1 pM1 aN1 cD1 cT1), sL1⟩)
    (xd1 : PySem.W.codeIn K cD1 "BadMap.__init__" = true)
    (xj1 : PySem.W.keepIn K (.ref fi1) = true)
    (xa2 : PySem.W.nsIn K mainGlobals "BadLand" = some (some (.ref cc2)))
    (xl2 : K.lookup cc2 = some (excClassObj nm2 qq2 cc2 NN2 bs2 (.ref cc10 :: veT) true sn2 sb2 ab2 cl2 dD2 ka2 kb2 kc2 kd2 ke2 "ValueError.__new__"))
    (xs2 : PySem.W.findIn K (.ref cc2) "__setattr__" = some (some (.builtin "object.__setattr__")))
    (xg2 : PySem.W.findIn K (.ref cc2) "__getattribute__" = some (some (.builtin "BaseException.__getattribute__")))
    (xh2 : PySem.W.findIn K (.ref cc2) "__getattr__" = some none)
    (xc2 : PySem.W.findIn K (.ref cc2) "__class__" = some (some (.builtin "object.__class__")))
    (xk2 : PySem.W.keepIn K (.ref cc2) = true)
    (xn2_0 : PySem.W.findIn K (.ref cc2) "part" = some none)
    (xi2 : PySem.W.findIn K (.ref cc2) "__init__" = some (some (.ref fi2)))
    (xt2 : PySem.W.typeIn K (.ref fi2) = some (.type "function"))
    (xf2 : K.lookup fi2 = some ⟨oC2, oD2, .func (PySem.W.fnOf "__init__" "BadLand.__init__" (defArgs s_BadLand) (defBody s_BadLand) (defScope s_BadLand) .none kV2x dC2 pM2 aN2 cD2 cT2), sL2⟩)
    (xd2 : PySem.W.codeIn K cD2 "BadLand.__init__" = true)
    (xj2 : PySem.W.keepIn K (.ref fi2) = true)
    (xa3 : PySem.W.nsIn K mainGlobals "BadPlace" = some (some (.ref cc3)))
    (xl3 : K.lookup cc3 = some (excClassObj nm3 qq3 cc3 NN3 bs3 (.ref cc10 :: veT) true sn3 sb3 ab3 cl3 dD3 ka3 kb3 kc3 kd3 ke3 "ValueError.__new__"))
    (xs3 : PySem.W.findIn K (.ref cc3) "__setattr__" = some (some (.builtin "object.__setattr__")))
    (xg3 : PySem.W.findIn K (.ref cc3) "__getattribute__" = some (some (.builtin "BaseException.__getattribute__")))
    (xh3 : PySem.W.findIn K (.ref cc3) "__getattr__" = some none)
    (xc3 : PySem.W.findIn K (.ref cc3) "__class__" = some (some (.builtin "object.__class__")))
    (xk3 : PySem.W.keepIn K (.ref cc3) = true)
    (xn3_0 : PySem.W.findIn K (.ref cc3) "part" = some none)
    (xi3 : PySem.W.findIn K (.ref cc3) "__init__" = some (some (.ref fi3)))
    (xt3 : PySem.W.typeIn K (.ref fi3) = some (.type "function"))
    (xf3 : K.lookup fi3 = some ⟨oC3, oD3, .func (PySem.W.fnOf "__init__" "BadPlace.__init__" (defArgs s_BadPlace) (defBody s_BadPlace) (defScope s_BadPlace) .none kV3x dC3 pM3 aN3 cD3 cT3), sL3⟩)
    (xd3 : PySem.W.codeIn K cD3 "BadPlace.__init__" = true)
    (xj3 : PySem.W.keepIn K (.ref fi3) = true)
    (xa4 : PySem.W.nsIn K mainGlobals "BadPlacing" = some (some (.ref cc4)))
    (xl4 : K.lookup cc4 = some (excClassObj nm4 qq4 cc4 NN4 bs4 (.ref cc10 :: veT) true sn4 sb4 ab4 cl4 dD4 ka4 kb4 kc4 kd4 ke4 "ValueError.__new__"))
    (xs4 : PySem.W.findIn K (.ref cc4) "__setattr__" = some (some (.builtin "object.__setattr__")))
    (xg4 : PySem.W.findIn K (.ref cc4) "__getattribute__" = some (some (.builtin "BaseException.__getattribute__")))
    (xh4 : PySem.W.findIn K (.ref cc4) "__getattr__" = some none)
    (xc4 : PySem.W.findIn K (.ref cc4) "__class__" = some (some (.builtin "object.__class__")))
    (xk4 : PySem.W.keepIn K (.ref cc4) = true)
    (xn4_0 : PySem.W.findIn K (.ref cc4) "part" = some none)
    (xi4 : PySem.W.findIn K (.ref cc4) "__init__" = some (some (.ref fi4)))
    (xt4 : PySem.W.typeIn K (.ref fi4) = some (.type "function"))
    (xf4 : K.lookup fi4 = some ⟨oC4, oD4, .func (PySem.W.fnOf "__init__" "BadPlacing.__init__" (defArgs s_BadPlacing) (defBody s_BadPlacing) (defScope s_BadPlacing) .none kV4x dC4 pM4 aN4 cD4 cT4), sL4⟩)
    (xd4 : PySem.W.codeIn K cD4 "BadPlacing.__init__" = true)
    (xj4 : PySem.W.keepIn K (.ref fi4) = true)
    (xa5 : PySem.W.nsIn K mainGlobals "BadWeights" = some (some (.ref cc5)))
    (xl5 : K.lookup cc5 = some (excClassObj nm5 qq5 cc5 NN5 bs5 (.ref cc10 :: veT) true sn5 sb5 ab5 cl5 dD5 ka5 kb5 kc5 kd5 ke5 "ValueError.__new__"))
    (xs5 : PySem.W.findIn K (.ref cc5) "__setattr__" = some (some (.builtin "object.__setattr__")))
    (xg5 : PySem.W.findIn K (.ref cc5) "__getattribute__" = some (some (.builtin "BaseException.__getattribute__")))
    (xh5 : PySem.W.findIn K (.ref cc5) "__getattr__" = some none)
    (xc5 : PySem.W.findIn K (.ref cc5) "__class__" = some (some (.builtin "object.__class__")))
    (xk5 : PySem.W.keepIn K (.ref cc5) = true)
    (xn5_0 : PySem.W.findIn K (.ref cc5) "part" = some none)
    (xi5 : PySem.W.findIn K (.ref cc5) "__init__" = some (some (.ref fi5)))
    (xt5 : PySem.W.typeIn K (.ref fi5) = some (.type "function"))
    (xf5 : K.lookup fi5 = some ⟨oC5, oD5, .func (PySem.W.fnOf "__init__" "BadWeights.__init__" (defArgs s_BadWeights) (defBody s_BadWeights) (defScope s_BadWeights) .none kV5x dC5 pM5 aN5 cD5 cT5), sL5⟩)
    (xd5 : PySem.W.codeIn K cD5 "BadWeights.__init__" = true)
    (xj5 : PySem.W.keepIn K (.ref fi5) = true)
    (xa6 : PySem.W.nsIn K mainGlobals "BadPoly" = some (some (.ref cc6)))
    (xl6 : K.lookup cc6 = some (excClassObj nm6 qq6 cc6 NN6 bs6 (.ref cc10 :: veT) true sn6 sb6 ab6 cl6 dD6 ka6 kb6 kc6 kd6 ke6 "ValueError.__new__"))
    (xs6 : PySem.W.findIn K (.ref cc6) "__setattr__" = some (some (.builtin "object.__setattr__")))
    (xg6 : PySem.W.findIn K (.ref cc6) "__getattribute__" = some (some (.builtin "BaseException.__getattribute__")))
    (xh6 : PySem.W.findIn K (.ref cc6) "__getattr__" = some none)
    (xc6 : PySem.W.findIn K (.ref cc6) "__class__" = some (some (.builtin "object.__class__")))
    (xk6 : PySem.W.keepIn K (.ref cc6) = true)
    (xn6_0 : PySem.W.findIn K (.ref cc6) "part" = some none)
    (xi6 : PySem.W.findIn K (.ref cc6) "__init__" = some (some (.ref fi6)))
    (xt6 : PySem.W.typeIn K (.ref fi6) = some (.type "function"))
    (xf6 : K.lookup fi6 = some ⟨oC6, oD6, .func (PySem.W.fnOf "__init__" "BadPoly.__init__" (defArgs s_BadPoly) (defBody s_BadPoly) (defScope s_BadPoly) .none kV6x dC6 pM6 aN6 cD6 cT6), sL6⟩)
    (xd6 : PySem.W.codeIn K cD6 "BadPoly.__init__" = true)
    (xj6 : PySem.W.keepIn K (.ref fi6) = true)
    (xa7 : PySem.W.nsIn K mainGlobals "Misfit" = some (some (.ref cc7)))
    (xl7 : K.lookup cc7 = some (excClassObj nm7 qq7 cc7 NN7 bs7 (.ref cc10 :: veT) true sn7 sb7 ab7 cl7 dD7 ka7 kb7 kc7 kd7 ke7 "ValueError.__new__"))
    (xs7 : PySem.W.findIn K (.ref cc7) "__setattr__" = some (some (.builtin "object.__setattr__")))
    (xg7 : PySem.W.findIn K (.ref cc7) "__getattribute__" = some (some (.builtin "BaseException.__getattribute__")))
    (xh7 : PySem.W.findIn K (.ref cc7) "__getattr__" = some none)
    (xc7 : PySem.W.findIn K (.ref cc7) "__class__" = some (some (.builtin "object.__class__")))
    (xk7 : PySem.W.keepIn K (.ref cc7) = true)
    (xn7_0 : PySem.W.findIn K (.ref cc7) "part" = some none)
    (xi7 : PySem.W.findIn K (.ref cc7) "__init__" = some (some (.ref fi7)))
    (xt7 : PySem.W.typeIn K (.ref fi7) = some (.type "function"))
    (xf7 : K.lookup fi7 = some ⟨oC7, oD7, .func (PySem.W.fnOf "__init__" "Misfit.__init__" (defArgs s_Misfit) (defBody s_Misfit) (defScope s_Misfit) .none kV7x dC7 pM7 aN7 cD7 cT7), sL7⟩)
    (xd7 : PySem.W.codeIn K cD7 "Misfit.__init__" = true)
    (xj7 : PySem.W.keepIn K (.ref fi7) = true)
    (xa8 : PySem.W.nsIn K mainGlobals "TooMany" = some (some (.ref cc8)))
    (xl8 : K.lookup cc8 = some (excClassObj nm8 qq8 cc8 NN8 bs8 (.ref cc10 :: veT) true sn8 sb8 ab8 cl8 dD8 ka8 kb8 kc8 kd8 ke8 "ValueError.__new__"))
    (xs8 : PySem.W.findIn K (.ref cc8) "__setattr__" = some (some (.builtin "object.__setattr__")))
    (xg8 : PySem.W.findIn K (.ref cc8) "__getattribute__" = some (some (.builtin "BaseException.__getattribute__")))
    (xh8 : PySem.W.findIn K (.ref cc8) "__getattr__" = some none)
    (xc8 : PySem.W.findIn K (.ref cc8) "__class__" = some (some (.builtin "object.__class__")))
    (xk8 : PySem.W.keepIn K (.ref cc8) = true)
    (xn8_0 : PySem.W.findIn K (.ref cc8) "what" = some none)
    (xn8_1 : PySem.W.findIn K (.ref cc8) "most" = some none)
    (xi8 : PySem.W.findIn K (.ref cc8) "__init__" = some (some (.ref fi8)))
    (xt8 : PySem.W.typeIn K (.ref fi8) = some (.type "function"))
    (xf8 : K.lookup fi8 = some ⟨oC8, oD8, .func (PySem.W.fnOf "__init__" "TooMany.__init__" (defArgs s_TooMany) (defBody s_TooMany) (defScope s_TooMany) .none kV8x dC8 pM8 aN8 cD8 cT8), sL8⟩)
    (xd8 : PySem.W.codeIn K cD8 "TooMany.__init__" = true)
    (xj8 : PySem.W.keepIn K (.ref fi8) = true)
    (xa9 : PySem.W.nsIn K mainGlobals "BadText" = some (some (.ref cc9)))
    (xl9 : K.lookup cc9 = some (excClassObj nm9 qq9 cc9 NN9 bs9 (.ref cc10 :: veT) true sn9 sb9 ab9 cl9 dD9 ka9 kb9 kc9 kd9 ke9 "ValueError.__new__"))
    (xs9 : PySem.W.findIn K (.ref cc9) "__setattr__" = some (some (.builtin "object.__setattr__")))
    (xg9 : PySem.W.findIn K (.ref cc9) "__getattribute__" = some (some (.builtin "BaseException.__getattribute__")))
    (xh9 : PySem.W.findIn K (.ref cc9) "__getattr__" = some none)
    (xc9 : PySem.W.findIn K (.ref cc9) "__class__" = some (some (.builtin "object.__class__")))
    (xk9 : PySem.W.keepIn K (.ref cc9) = true)
    (xn9_0 : PySem.W.findIn K (.ref cc9) "line" = some none)
    (xn9_1 : PySem.W.findIn K (.ref cc9) "item" = some none)
    (xi9 : PySem.W.findIn K (.ref cc9) "__init__" = some (some (.ref fi9)))
    (xt9 : PySem.W.typeIn K (.ref fi9) = some (.type "function"))
    (xf9 : K.lookup fi9 = some ⟨oC9, oD9, .func (PySem.W.fnOf "__init__" "BadText.__init__" (defArgs s_BadText) (defBody s_BadText) (defScope s_BadText) .none kV9x dC9 pM9 aN9 cD9 cT9), sL9⟩)
    (xd9 : PySem.W.codeIn K cD9 "BadText.__init__" = true)
    (xj9 : PySem.W.keepIn K (.ref fi9) = true)
    (xa10 : PySem.W.nsIn K mainGlobals "FlowError" = some (some (.ref cc10)))
    (xl10 : K.lookup cc10 = some (excClassObj nm10 qq10 cc10 NN10 bs10 veT true sn10 sb10 ab10 cl10 dD10 ka10 kb10 kc10 kd10 ke10 "ValueError.__new__"))
    (nd : [cc0, cc1, cc2, cc3, cc4, cc5, cc6, cc7, cc8, cc9, cc10].Nodup)
    : ∃ fd : FuncData, (∀ (s : Shared) (u : Value), BindsTo s fd ⟨[u], []⟩ [("script", u)]) ∧ ∀ base : Heap, K.In base → base.Ns mainGlobals mg → FnG P w K mg base CX0 5 fa fd ["script"] (sp_law K) :=
  end_mk (C := fun i => [cc0, cc1, cc2, cc3, cc4, cc5, cc6, cc7, cc8, cc9, cc10].getD i 0) (h := h) hmg fun base => { d__law_quay := de_mk X G a0 l0 c0 k0, d__law_moor := de_mk X G a1 l1 c1 k1, d__law_pick := de_mk X G a2 l2 c2 k2, d__law_field := de_mk X G a3 l3 c3 k3, d__law_parts := de_mk X G a4 l4 c4 k4, d__law_which := de_mk X G a5 l5 c5 k5, d__law_is_plain := de_mk X G a6 l6 c6 k6, d__law_caught := de_mk X G a7 l7 c7 k7, d_law := de_mk X G a8 l8 c8 k8, n_ArithmeticError := PySem.W.mg_none_of X G z0, n_AttributeError := PySem.W.mg_none_of X G z1, n_LookupError := PySem.W.mg_none_of X G z2, n_RuntimeError := PySem.W.mg_none_of X G z3, n_TypeError := PySem.W.mg_none_of X G z4, n_ValueError := PySem.W.mg_none_of X G z5, n_abs := PySem.W.mg_none_of X G z6, n_enumerate := PySem.W.mg_none_of X G z7, n_int := PySem.W.mg_none_of X G z8, n_isinstance := PySem.W.mg_none_of X G z9, n_len := PySem.W.mg_none_of X G z10, n_range := PySem.W.mg_none_of X G z11, n_repr := PySem.W.mg_none_of X G z12, q_BadNumber := ed_mk X G xa0 xl0 xs0 xg0 xh0 xc0 hN hT xk0 (no1 xn0_0) xi0 xt0 xf0 xd0 xj0, q_BadMap := ed_mk X G xa1 xl1 xs1 xg1 xh1 xc1 hN hT xk1 (no1 xn1_0) xi1 xt1 xf1 xd1 xj1, q_BadLand := ed_mk X G xa2 xl2 xs2 xg2 xh2 xc2 hN hT xk2 (no1 xn2_0) xi2 xt2 xf2 xd2 xj2, q_BadPlace := ed_mk X G xa3 xl3 xs3 xg3 xh3 xc3 hN hT xk3 (no1 xn3_0) xi3 xt3 xf3 xd3 xj3, q_BadPlacing := ed_mk X G xa4 xl4 xs4 xg4 xh4 xc4 hN hT xk4 (no1 xn4_0) xi4 xt4 xf4 xd4 xj4, q_BadWeights := ed_mk X G xa5 xl5 xs5 xg5 xh5 xc5 hN hT xk5 (no1 xn5_0) xi5 xt5 xf5 xd5 xj5, q_BadPoly := ed_mk X G xa6 xl6 xs6 xg6 xh6 xc6 hN hT xk6 (no1 xn6_0) xi6 xt6 xf6 xd6 xj6, q_Misfit := ed_mk X G xa7 xl7 xs7 xg7 xh7 xc7 hN hT xk7 (no1 xn7_0) xi7 xt7 xf7 xd7 xj7, q_TooMany := ed_mk X G xa8 xl8 xs8 xg8 xh8 xc8 hN hT xk8 (no2 xn8_0 xn8_1) xi8 xt8 xf8 xd8 xj8, q_BadText := ed_mk X G xa9 xl9 xs9 xg9 xh9 xc9 hN hT xk9 (no2 xn9_0 xn9_1) xi9 xt9 xf9 xd9 xj9, f_flow := PySem.W.mg_of X G xa10, g_flow := ⟨_, _, _, _, _, _, _, _, _, _, _, _, _, _, xl10⟩, inj := inj_of nd }
end Mf
open PySem PySem.W PyProof.Rows
set_option maxHeartbeats 0 in
theorem PySem.Challenge.cw_mapflow_k00_errors_keep_their_fields_holds : PySem.Challenge.rw_mapflow_k00_errors_keep_their_fields.Holds := by
  w_on; o_law; k_head; (case hw => w_witness2)
  k_fill
  refine Mf.walkG (l := PySem.Challenge.rw_mapflow_k00_errors_keep_their_fields) (n := 63) (k := 5) (x := "script") (sp := Mf.sp_law) rfl (by decide) rfl ⟨rfl, by decide, by decide⟩ (fun w h Y => PySem.W.kIn_of Y) ?F (fun K H a ns hl _ hS => ⟨a, ns, rfl, hS, hl, fun _ => rfl⟩)
  case F =>
    intro w mg fa h KX G hmg
    refine' Mf.all_mk KX G hmg ?a0 ?l0 ?c0 ?k0 ?a1 ?l1 ?c1 ?k1 ?a2 ?l2 ?c2 ?k2 ?a3 ?l3 ?c3 ?k3 ?a4 ?l4 ?c4 ?k4 ?a5 ?l5 ?c5 ?k5 ?a6 ?l6 ?c6 ?k6 ?a7 ?l7 ?c7 ?k7 ?a8 ?l8 ?c8 ?k8 ?z0 ?z1 ?z2 ?z3 ?z4 ?z5 ?z6 ?z7 ?z8 ?z9 ?z10 ?z11 ?z12 ?hN ?hT ?xa0 ?xl0 ?xs0 ?xg0 ?xh0 ?xc0 ?xk0 ?xn0_0 ?xi0 ?xt0 ?xf0 ?xd0 ?xj0 ?xa1 ?xl1 ?xs1 ?xg1 ?xh1 ?xc1 ?xk1 ?xn1_0 ?xi1 ?xt1 ?xf1 ?xd1 ?xj1 ?xa2 ?xl2 ?xs2 ?xg2 ?xh2 ?xc2 ?xk2 ?xn2_0 ?xi2 ?xt2 ?xf2 ?xd2 ?xj2 ?xa3 ?xl3 ?xs3 ?xg3 ?xh3 ?xc3 ?xk3 ?xn3_0 ?xi3 ?xt3 ?xf3 ?xd3 ?xj3 ?xa4 ?xl4 ?xs4 ?xg4 ?xh4 ?xc4 ?xk4 ?xn4_0 ?xi4 ?xt4 ?xf4 ?xd4 ?xj4 ?xa5 ?xl5 ?xs5 ?xg5 ?xh5 ?xc5 ?xk5 ?xn5_0 ?xi5 ?xt5 ?xf5 ?xd5 ?xj5 ?xa6 ?xl6 ?xs6 ?xg6 ?xh6 ?xc6 ?xk6 ?xn6_0 ?xi6 ?xt6 ?xf6 ?xd6 ?xj6 ?xa7 ?xl7 ?xs7 ?xg7 ?xh7 ?xc7 ?xk7 ?xn7_0 ?xi7 ?xt7 ?xf7 ?xd7 ?xj7 ?xa8 ?xl8 ?xs8 ?xg8 ?xh8 ?xc8 ?xk8 ?xn8_0 ?xn8_1 ?xi8 ?xt8 ?xf8 ?xd8 ?xj8 ?xa9 ?xl9 ?xs9 ?xg9 ?xh9 ?xc9 ?xk9 ?xn9_0 ?xn9_1 ?xi9 ?xt9 ?xf9 ?xd9 ?xj9 ?xa10 ?xl10 ?nd
    (case a0 => k_is); (case l0 => k_is); (case c0 => k_is); (case k0 => k_is); (case a1 => k_is); (case l1 => k_is); (case c1 => k_is); (case k1 => k_is); (case a2 => k_is); (case l2 => k_is); (case c2 => k_is); (case k2 => k_is); (case a3 => k_is); (case l3 => k_is); (case c3 => k_is); (case k3 => k_is); (case a4 => k_is); (case l4 => k_is); (case c4 => k_is); (case k4 => k_is); (case a5 => k_is); (case l5 => k_is); (case c5 => k_is); (case k5 => k_is); (case a6 => k_is); (case l6 => k_is); (case c6 => k_is); (case k6 => k_is); (case a7 => k_is); (case l7 => k_is); (case c7 => k_is); (case k7 => k_is); (case a8 => k_is); (case l8 => k_is); (case c8 => k_is); (case k8 => k_is); (case z0 => k_is); (case z1 => k_is); (case z2 => k_is); (case z3 => k_is); (case z4 => k_is); (case z5 => k_is); (case z6 => k_is); (case z7 => k_is); (case z8 => k_is); (case z9 => k_is); (case z10 => k_is); (case z11 => k_is); (case z12 => k_is); (case hN => first | k_is | rfl | decide +kernel); (case hT => first | k_is | rfl | decide +kernel); (case xa0 => first | k_is | rfl | decide +kernel); (case xl0 => first | k_is | rfl | decide +kernel); (case xs0 => first | k_is | rfl | decide +kernel); (case xg0 => first | k_is | rfl | decide +kernel); (case xh0 => first | k_is | rfl | decide +kernel); (case xc0 => first | k_is | rfl | decide +kernel); (case xk0 => first | k_is | rfl | decide +kernel); (case xn0_0 => first | k_is | rfl | decide +kernel); (case xi0 => first | k_is | rfl | decide +kernel); (case xt0 => first | k_is | rfl | decide +kernel); (case xf0 => first | k_is | rfl | decide +kernel); (case xd0 => first | k_is | rfl | decide +kernel); (case xj0 => first | k_is | rfl | decide +kernel); (case xa1 => first | k_is | rfl | decide +kernel); (case xl1 => first | k_is | rfl | decide +kernel); (case xs1 => first | k_is | rfl | decide +kernel); (case xg1 => first | k_is | rfl | decide +kernel); (case xh1 => first | k_is | rfl | decide +kernel); (case xc1 => first | k_is | rfl | decide +kernel); (case xk1 => first | k_is | rfl | decide +kernel); (case xn1_0 => first | k_is | rfl | decide +kernel); (case xi1 => first | k_is | rfl | decide +kernel); (case xt1 => first | k_is | rfl | decide +kernel); (case xf1 => first | k_is | rfl | decide +kernel); (case xd1 => first | k_is | rfl | decide +kernel); (case xj1 => first | k_is | rfl | decide +kernel); (case xa2 => first | k_is | rfl | decide +kernel); (case xl2 => first | k_is | rfl | decide +kernel); (case xs2 => first | k_is | rfl | decide +kernel); (case xg2 => first | k_is | rfl | decide +kernel); (case xh2 => first | k_is | rfl | decide +kernel); (case xc2 => first | k_is | rfl | decide +kernel); (case xk2 => first | k_is | rfl | decide +kernel); (case xn2_0 => first | k_is | rfl | decide +kernel); (case xi2 => first | k_is | rfl | decide +kernel); (case xt2 => first | k_is | rfl | decide +kernel); (case xf2 => first | k_is | rfl | decide +kernel); (case xd2 => first | k_is | rfl | decide +kernel); (case xj2 => first | k_is | rfl | decide +kernel); (case xa3 => first | k_is | rfl | decide +kernel); (case xl3 => first | k_is | rfl | decide +kernel); (case xs3 => first | k_is | rfl | decide +kernel); (case xg3 => first | k_is | rfl | decide +kernel); (case xh3 => first | k_is | rfl | decide +kernel); (case xc3 => first | k_is | rfl | decide +kernel); (case xk3 => first | k_is | rfl | decide +kernel); (case xn3_0 => first | k_is | rfl | decide +kernel); (case xi3 => first | k_is | rfl | decide +kernel); (case xt3 => first | k_is | rfl | decide +kernel); (case xf3 => first | k_is | rfl | decide +kernel); (case xd3 => first | k_is | rfl | decide +kernel); (case xj3 => first | k_is | rfl | decide +kernel); (case xa4 => first | k_is | rfl | decide +kernel); (case xl4 => first | k_is | rfl | decide +kernel); (case xs4 => first | k_is | rfl | decide +kernel); (case xg4 => first | k_is | rfl | decide +kernel); (case xh4 => first | k_is | rfl | decide +kernel); (case xc4 => first | k_is | rfl | decide +kernel); (case xk4 => first | k_is | rfl | decide +kernel); (case xn4_0 => first | k_is | rfl | decide +kernel); (case xi4 => first | k_is | rfl | decide +kernel); (case xt4 => first | k_is | rfl | decide +kernel); (case xf4 => first | k_is | rfl | decide +kernel); (case xd4 => first | k_is | rfl | decide +kernel); (case xj4 => first | k_is | rfl | decide +kernel); (case xa5 => first | k_is | rfl | decide +kernel); (case xl5 => first | k_is | rfl | decide +kernel); (case xs5 => first | k_is | rfl | decide +kernel); (case xg5 => first | k_is | rfl | decide +kernel); (case xh5 => first | k_is | rfl | decide +kernel); (case xc5 => first | k_is | rfl | decide +kernel); (case xk5 => first | k_is | rfl | decide +kernel); (case xn5_0 => first | k_is | rfl | decide +kernel); (case xi5 => first | k_is | rfl | decide +kernel); (case xt5 => first | k_is | rfl | decide +kernel); (case xf5 => first | k_is | rfl | decide +kernel); (case xd5 => first | k_is | rfl | decide +kernel); (case xj5 => first | k_is | rfl | decide +kernel); (case xa6 => first | k_is | rfl | decide +kernel); (case xl6 => first | k_is | rfl | decide +kernel); (case xs6 => first | k_is | rfl | decide +kernel); (case xg6 => first | k_is | rfl | decide +kernel); (case xh6 => first | k_is | rfl | decide +kernel); (case xc6 => first | k_is | rfl | decide +kernel); (case xk6 => first | k_is | rfl | decide +kernel); (case xn6_0 => first | k_is | rfl | decide +kernel); (case xi6 => first | k_is | rfl | decide +kernel); (case xt6 => first | k_is | rfl | decide +kernel); (case xf6 => first | k_is | rfl | decide +kernel); (case xd6 => first | k_is | rfl | decide +kernel); (case xj6 => first | k_is | rfl | decide +kernel); (case xa7 => first | k_is | rfl | decide +kernel); (case xl7 => first | k_is | rfl | decide +kernel); (case xs7 => first | k_is | rfl | decide +kernel); (case xg7 => first | k_is | rfl | decide +kernel); (case xh7 => first | k_is | rfl | decide +kernel); (case xc7 => first | k_is | rfl | decide +kernel); (case xk7 => first | k_is | rfl | decide +kernel); (case xn7_0 => first | k_is | rfl | decide +kernel); (case xi7 => first | k_is | rfl | decide +kernel); (case xt7 => first | k_is | rfl | decide +kernel); (case xf7 => first | k_is | rfl | decide +kernel); (case xd7 => first | k_is | rfl | decide +kernel); (case xj7 => first | k_is | rfl | decide +kernel); (case xa8 => first | k_is | rfl | decide +kernel); (case xl8 => first | k_is | rfl | decide +kernel); (case xs8 => first | k_is | rfl | decide +kernel); (case xg8 => first | k_is | rfl | decide +kernel); (case xh8 => first | k_is | rfl | decide +kernel); (case xc8 => first | k_is | rfl | decide +kernel); (case xk8 => first | k_is | rfl | decide +kernel); (case xn8_0 => first | k_is | rfl | decide +kernel); (case xn8_1 => first | k_is | rfl | decide +kernel); (case xi8 => first | k_is | rfl | decide +kernel); (case xt8 => first | k_is | rfl | decide +kernel); (case xf8 => first | k_is | rfl | decide +kernel); (case xd8 => first | k_is | rfl | decide +kernel); (case xj8 => first | k_is | rfl | decide +kernel); (case xa9 => first | k_is | rfl | decide +kernel); (case xl9 => first | k_is | rfl | decide +kernel); (case xs9 => first | k_is | rfl | decide +kernel); (case xg9 => first | k_is | rfl | decide +kernel); (case xh9 => first | k_is | rfl | decide +kernel); (case xc9 => first | k_is | rfl | decide +kernel); (case xk9 => first | k_is | rfl | decide +kernel); (case xn9_0 => first | k_is | rfl | decide +kernel); (case xn9_1 => first | k_is | rfl | decide +kernel); (case xi9 => first | k_is | rfl | decide +kernel); (case xt9 => first | k_is | rfl | decide +kernel); (case xf9 => first | k_is | rfl | decide +kernel); (case xd9 => first | k_is | rfl | decide +kernel); (case xj9 => first | k_is | rfl | decide +kernel); (case xa10 => first | k_is | rfl | decide +kernel); (case xl10 => first | k_is | rfl | decide +kernel); (case nd => decide)
